package tests

import (
	"fmt"
	"math"
	"slices"
	"testing"

	"loop.example/s00119/impl"
)

func TestRunCalls(t *testing.T) {
	checkRunRows(t, []runRow{
		{"-> i64", "", "i32.const 3; i64.const 4; call 5", nil, 0, ends(3004), 13},
		{"-> i64", "", "i32.const -3; i64.const 4; call 5", nil, 0, ends(1<<64 - 2996), 13},
		{"-> i64", "", "i64.const 9; i32.const 3; i64.const 4; call 5; i64.sub", nil, 0, ends(1<<64 - 2995), 15},
		{"-> i64", "", "i32.const 1; i32.const 2; i32.const 3; i64.const 4; call 5; call 5; call 5", nil, 0, ends(6004), 0},
		{"-> i32", "", "call 6; call 6; call 6; global.get 0", nil, 0, ends(43), 3*6 + 2},
		{"-> f64", "", "f32.const 0x3f800000; f64.const 0x4000000000000000; i32.const 3; i64.const 4; call 7", nil, 0, ends(1 << 62), 0},
		{"-> f64", "", "f64.const 0x3ff0000000000000; f32.const 0x3f800000; f64.const 0x4000000000000000; i32.const 3; i64.const 4; call 7; f64.sub", nil, 0, ends(0xbff0000000000000), 0},
		{"-> i32", "", "block i32; i32.const 9; call 6; end; call 6; global.get 0; i32.add", nil, 0, ends(51), 0},
		{"->", "", "call 8", nil, impl.TrapUnreachable, nil, 2},
		{"-> i32", "", "i32.const 9; i32.const 3; i64.const 4; call 5; call 8; drop", nil, impl.TrapUnreachable, nil, 0},
	})
}

// TestRunLocals: locals are the arguments, then zeros, in each call anew.
func TestRunLocals(t *testing.T) {
	rows := []runRow{
		{"i32 i64 f32 f64 -> i32", "", "local.get 0", ends(1, 2, 3, 4), 0, ends(1), 2},
		{"i32 i64 f32 f64 -> i64", "", "local.get 1", ends(1, 1<<64-1, 3, 4), 0, ends(1<<64 - 1), 2},
		{"i32 i64 f32 f64 -> f32", "", "local.get 2", ends(1, 2, 1<<32-1, 4), 0, ends(1<<32 - 1), 2},
		{"i32 i64 f32 f64 -> f64", "", "local.get 3", ends(1, 2, 3, 1<<64-1), 0, ends(1<<64 - 1), 2},
		{"i32 -> i64", " 2 i64 3 f32", "local.get 2", ends(1), 0, ends(0), 2},
		{"i32 -> f32", " 2 i64 3 f32", "local.get 5", ends(1), 0, ends(0), 2},
		{"i32 -> i32", "", "i32.const 5; local.set 0; local.get 0", ends(1), 0, ends(5), 4},
		{"i32 -> i32", "", "i32.const 5; local.tee 0; local.get 0; i32.add", ends(1), 0, ends(10), 5},
		{"i32 -> i64", " 2 i64", "i64.const 5; local.set 1; i64.const 7; local.set 2; local.get 1; local.get 2; i64.sub", ends(1), 0, ends(1<<64 - 2), 0},
		{"i32 i32 -> i32", "", "local.get 1; local.get 0; local.set 1; local.set 0; local.get 0; local.get 1; i32.sub", ends(3, 10), 0, ends(7), 0},
		{"-> i32", "", "i32.const 1; i32.const 2; i32.const 0; select", nil, 0, ends(2), 5},
		{"-> i32", "", "i32.const 1; i32.const 2; i32.const 1; select", nil, 0, ends(1), 5},
		{"-> f64", "", "f64.const 0x0000000000000001; f64.const 0x8000000000000000; i32.const -2147483648; select", nil, 0, ends(1), 5},
		{"-> i64", "", "i64.const 1; i64.const 2; f32.const 0x00000000; drop; drop", nil, 0, ends(1), 6},
		{"-> i32", "", "global.get 0", nil, 0, ends(40), 2},
		{"-> i64", "", "global.get 1", nil, 0, ends(1<<64 - 1), 2},
		{"-> f32", "", "global.get 2", nil, 0, ends(0x3f800000), 2},
		{"-> f64", "", "global.get 3", nil, 0, ends(0xbff0000000000000), 2},
		{"-> i64", "", "i64.const 6; global.set 1; i32.const 7; global.set 0; global.get 1", nil, 0, ends(6), 6},
	}
	got := checkRunRows(t, rows)
	last := got[len(got)-1].Store.Globals
	if last[0].Val != 7 || last[1].Val != 6 || last[2].Val != 0x3f800000 {
		t.Errorf("globals: %+v", last)
	}
	// A function that leaves something in its local finds 0 there again.
	s := hosted("type -> i32; func 0; func 0; code 1 i32; call 1; drop; call 1; i32.const 9; local.set 0; call 1; i32.add; end; code 1 i32; local.get 0; i32.const 7; local.set 0; end")
	if got := checkRun(t, "twice", s, 4); !slices.Equal(got.State.Stack, ends(0)) {
		t.Errorf("locals do not begin at 0: %+v", got.State)
	}
}

func TestRunCallIndirect(t *testing.T) {
	rows := []runRow{
		{"-> i64", "", "i32.const 3; i64.const 4; i32.const 1; call_indirect 5", nil, 0, ends(3004), 14},
		{"-> i32", "", "i32.const 2; call_indirect 4; global.get 0", nil, 0, ends(41), 0},
		{"->", "", "i32.const 2; call_indirect 0", nil, 0, nil, 0},
		{"-> i32", "", "i32.const 5; call_indirect 3; i32.const 5; call_indirect 3; i32.sub", nil, 0, ends(6), 0},
		{"-> i32", "", "i32.const 77; i32.const 3; call_indirect 1; i32.const 0", nil, 0, ends(0), 5},
		{"->", "", "i32.const 6; call_indirect 4", nil, impl.TrapUnreachable, nil, 3},
		{"->", "", "i32.const 7; call_indirect 4", nil, impl.TrapHost, nil, 2},
		{"-> i64", "", "i64.const 1; i32.const 7; i32.const 0; call_indirect 1", nil, impl.TrapElement, nil, 4},
		{"->", "", "i32.const 0; call_indirect 4", nil, impl.TrapElement, nil, 2},
		{"->", "", "i32.const 8; call_indirect 4", nil, impl.TrapTable, nil, 2},
		{"->", "", "i32.const -1; call_indirect 4", nil, impl.TrapTable, nil, 2},
		{"->", "", "i32.const -2147483648; call_indirect 4", nil, impl.TrapTable, nil, 2},
		{"->", "", "i32.const -7; call_indirect 4", nil, impl.TrapTable, nil, 2},
		{"->", "", "i32.const 1; call_indirect 4", nil, impl.TrapType, nil, 2},
		{"->", "", "i32.const 2; i32.const 2; call_indirect 1", nil, impl.TrapType, nil, 3},
		{"-> i32", "", "i32.const 7; call_indirect 3", nil, impl.TrapType, nil, 2},
		{"-> i64", "", "i32.const 3; i64.const 4; i32.const 4; call_indirect 5", nil, impl.TrapType, nil, 4},
		{"->", "", "i64.const 3; i32.const 3; call_indirect 2", nil, impl.TrapType, nil, 3},
	}
	got := checkRunRows(t, rows)
	if !same(got[4].Store.Out, []impl.Told{{Host: 1, Val: 77}}) {
		t.Errorf("told by a table: %+v", got[4].Store.Out)
	}
}

// TestFramesByHand has the frames of two calls, field by field.
func TestFramesByHand(t *testing.T) {
	s := stage("i64 -> i64", " 1 f32", "i64.const 9; block i64; i32.const 3; local.get 0; call 5; end; i64.sub")
	below := impl.Frame{Func: 4, Pc: 5, Locals: ends(4, 0), Labels: []impl.Label{{Pc: 6, Arity: 1, Height: 1}}}
	above := impl.Frame{Func: 5, Locals: ends(3, 4, 0), Height: 1}
	want := impl.State{Stack: ends(9), Frames: []impl.Frame{below, above}}
	if got := impl.Invoke(s, 4, ends(4), 5); !same(got.State, want) {
		t.Errorf("behind the call: %+v, want %+v", got.State, want)
	}
	want.Frames[1].Pc, want.Stack = 3, ends(9, 3, 1000)
	if got := impl.Invoke(s, 4, ends(4), 8); !same(got.State, want) {
		t.Errorf("within it: %+v, want %+v", got.State, want)
	}
	want = impl.State{Stack: ends(9, 3004), Frames: []impl.Frame{below}}
	if got := impl.Invoke(s, 4, ends(4), 14); !same(got.State, want) {
		t.Errorf("behind its return: %+v, want %+v", got.State, want)
	}
	// What a function leaves below its results goes, and no more.
	s = hosted("type -> i32; func 0; func 0; code; i32.const 5; loop i32; call 1; end; i32.add; end; code; i64.const 1; block; block i32; i32.const 2; i32.const 3; br 2; end; drop; end; drop; i32.const 4; end")
	want = impl.State{Stack: ends(5), Frames: []impl.Frame{{Func: 4, Pc: 3, Labels: []impl.Label{{Pc: 2, Height: 1, Loop: true}}}, {
		Func: 5, Pc: 5, Height: 1, Labels: []impl.Label{{Pc: 9, Height: 2}, {Pc: 7, Arity: 1, Height: 2}},
	}}}
	want.Stack = ends(5, 1, 2, 3)
	if got := impl.Invoke(s, 4, nil, 8); !same(got.State, want) {
		t.Errorf("before the branch: %+v, want %+v", got.State, want)
	}
	want.Stack, want.Frames = ends(5, 3), want.Frames[:1]
	if got := impl.Invoke(s, 4, nil, 9); !same(got.State, want) {
		t.Errorf("behind it: %+v, want %+v", got.State, want)
	}
	if got := checkRun(t, "left", s, 4); !slices.Equal(got.State.Stack, ends(8)) {
		t.Errorf("%+v", got.State)
	}
}

// deep calls itself so often as its argument says, then does what is last.
func deep(call, last string) impl.Store {
	return stage("i32 -> i32", " 1 i64", "local.get 0; i32.eqz; if i32; "+last+"; i32.const 5; else; local.get 0; i32.const 1; i32.sub; "+call+"; i32.const 1; i32.add; end")
}

func TestRunDepth(t *testing.T) {
	for _, call := range []string{"call 4", "i32.const 4; call_indirect 0"} {
		for _, last := range []string{"nop", "i32.const 7; call 0", "call 2; drop", "i32.const 5; call_indirect 3; drop"} {
			s := deep(call, last)
			most := checkDeep(t, s, 199)
			if most.State.Status != impl.Done || !slices.Equal(most.State.Stack, ends(204)) {
				t.Errorf("%s, %s: %+v", call, last, most.State)
			}
			for _, n := range []uint64{200, 201, 1 << 31} {
				over := checkDeep(t, s, n)
				if !same(over.State, impl.State{Status: impl.Trapped, Trap: impl.TrapDepth}) || over.Used > 200*9 {
					t.Errorf("%s, %s: one more: %+v", call, last, over.State)
				}
			}
		}
	}
	for _, last := range []string{"call 6", "i32.const 2; call_indirect 4"} {
		if got := checkDeep(t, deep("call 4", last), 198); got.State.Status != impl.Done || got.Store.Globals[0].Val != 41 {
			t.Errorf("%s: the frame 200: %+v", last, got.State)
		}
		if got := checkDeep(t, deep("call 4", last), 199); got.State.Trap != impl.TrapDepth || got.Store.Globals[0].Val != 40 {
			t.Errorf("%s: the frame 201: %+v", last, got.State)
		}
	}
	// What is no address any more for want of a table entry traps before that.
	if got := checkDeep(t, deep("call 4", "i32.const 9; call_indirect 4"), 199); got.State.Trap != impl.TrapTable {
		t.Errorf("%+v", got.State)
	}
}

// checkDeep looks at a run as it is at some places, near its greatest depth
// among them.
func checkDeep(t *testing.T, s impl.Store, n uint64) impl.RunRes {
	t.Helper()
	whole := impl.Invoke(s, 4, ends(n), impl.FuelMax)
	mustSame(t, n, whole, refInvoke(s, 4, ends(n), impl.FuelMax))
	for _, fuel := range []int64{8, 9, 100, whole.Used / 2, whole.Used - 1} {
		part := impl.Invoke(s, 4, ends(n), fuel)
		mustSame(t, n, part, refInvoke(s, 4, ends(n), fuel))
		checkStep(t, n, codesOf(s), part, part)
		rest := impl.Resume(part.Store, part.State, impl.FuelMax)
		rest.Used += fuel
		mustSame(t, n, rest, whole)
	}
	return whole
}

func TestRunDeepest(t *testing.T) {
	s := deep("call 4", "nop")
	got := impl.Invoke(s, 4, ends(199), 199*7+3)
	if len(got.State.Frames) != 200 || !impl.StateFits(got.Store, got.State) {
		t.Fatalf("%d frames", len(got.State.Frames))
	}
	for i, f := range got.State.Frames {
		if f.Locals[0] != uint64(199-i) || f.Height != 0 || f.Func != 4 {
			t.Errorf("frame %d: %+v", i, f)
		}
	}
}

func TestRunHosts(t *testing.T) {
	rows := []runRow{
		{"->", "", "i32.const -1; call 0; i64.const -2; call 1; i32.const 7; call 0", nil, 0, nil, 7},
		{"-> i32", "", "call 2", nil, 0, ends(5), 2},
		{"-> i32", "", "call 2; drop; call 2", nil, 0, ends(1<<32 - 1), 4},
		{"-> i32", "", "call 2; drop; call 2; drop; call 2", nil, 0, ends(0), 6},
		{"->", "", "i32.const 3; call 0; call 3", nil, impl.TrapHost, nil, 3},
		{"-> i64", "", "i64.const 8; i64.const 9; call 1", nil, 0, ends(8), 4},
	}
	got := checkRunRows(t, rows)
	outs := [][]impl.Told{
		{{Host: 1, Val: 1<<32 - 1}, {Host: 2, Val: 1<<64 - 2}, {Host: 1, Val: 7}}, nil, nil, nil, {{Host: 1, Val: 3}}, {{Host: 2, Val: 9}},
	}
	ins := [][]uint64{{5, 1<<32 - 1}, {1<<32 - 1}, nil, nil, {5, 1<<32 - 1}, {5, 1<<32 - 1}}
	for i, r := range got {
		if !same(r.Store.Out, outs[i]) || !same(r.Store.In, ins[i]) {
			t.Errorf("%+v: In %v, Out %v", rows[i], r.Store.In, r.Store.Out)
		}
	}
	checkEmptyIn(t)
}

func checkEmptyIn(t *testing.T) {
	t.Helper()
	s := stage("-> i32", "", "call 2")
	if got := checkRun(t, "In empty", s, 4); !slices.Equal(got.State.Stack, ends(0)) || len(got.Store.In) != 0 {
		t.Errorf("In empty: %+v", got.State)
	}
	s.In = slices.Repeat(ends(1<<32-1), 1000)
	if got := checkRun(t, "In full", s, 4); !slices.Equal(got.State.Stack, ends(1<<32-1)) || len(got.Store.In) != 999 {
		t.Errorf("In full: %+v", got.State)
	}
}

// TestRunOutFull: Out can be full, but not more than that.
func TestRunOutFull(t *testing.T) {
	for i, tell := range []string{"i32.const 6; call 0", "i64.const 6; call 1", "i32.const 6; i32.const 3; call_indirect 1"} {
		host := []int64{1, 2, 1}[i]
		for _, room := range []int{0, 1, 2} {
			s := stage("->", "", "i32.const 1; global.set 0; "+tell+"; i32.const 2; global.set 0; "+tell+"; i32.const 3; global.set 0")
			s.Out = slices.Repeat([]impl.Told{{Host: 2, Val: 1}}, 1000-room)
			got := checkRun(t, tell, s, 4)
			want := append(slices.Clone(s.Out), slices.Repeat([]impl.Told{{Host: host, Val: 6}}, room)...)
			if !same(got.Store.Out, want) || got.Store.Globals[0].Val != uint64(room+1) {
				t.Errorf("%s: room for %d: %d told", tell, room, len(got.Store.Out))
			}
			if trapped := same(got.State, impl.State{Status: impl.Trapped, Trap: impl.TrapHost}); trapped != (room < 2) {
				t.Errorf("%s: room for %d: %+v", tell, room, got.State)
			}
		}
	}
}

// trapBodies has bodies that trap, by the number of the trap.
func trapBodies() map[int64][]string {
	return map[int64][]string{
		impl.TrapUnreachable: {"unreachable", "call 8", "block; loop; i32.const 1; if; unreachable; end; end; end"},
		impl.TrapDivide: {
			"i32.const 1; i32.const 0; i32.div_s; drop", "i32.const 1; i32.const 0; i32.div_u; drop", "i32.const 0; i32.const 0; i32.rem_s; drop", "i32.const 1; i32.const 0; i32.rem_u; drop",
			"i64.const 1; i64.const 0; i64.div_s; drop", "i64.const 0; i64.const 0; i64.div_u; drop", "i64.const 1; i64.const 0; i64.rem_s; drop", "i64.const 1; i64.const 0; i64.rem_u; drop",
		},
		impl.TrapOverflow: {
			"i32.const -2147483648; i32.const -1; i32.div_s; drop", "i64.const -9223372036854775808; i64.const -1; i64.div_s; drop",
			"f32.const 0x4f000000; i32.trunc_f32_s; drop", "f64.const 0xbff0000000000000; i64.trunc_f64_u; drop", "f32.const 0x7f800000; i64.trunc_f32_s; drop",
		},
		impl.TrapConvert: {"f32.const 0x7fc00000; i32.trunc_f32_u; drop", "f64.const 0xfff0000000000001; i64.trunc_f64_s; drop"},
		impl.TrapMemory:  {"i32.const -1; i32.load 2 0; drop", "i32.const 131069; i32.const 1; i32.store 0 0", "i32.const 131065; i64.load 3 0; drop"},
		impl.TrapTable:   {"i32.const 8; call_indirect 4"},
		impl.TrapElement: {"i32.const 0; call_indirect 4"},
		impl.TrapType:    {"i32.const 4; call_indirect 3; drop"},
		impl.TrapDepth:   {"call 4"},
		impl.TrapHost:    {"call 3", "i32.const 7; call_indirect 4"},
	}
}

// TestRunTraps: every trap, with values on the stack, within blocks and within
// a call; what was done before it stays done.
func TestRunTraps(t *testing.T) {
	t.Parallel()
	do := "i32.const 5; global.set 0; i32.const 9; i32.const -2; i32.store16 1 0; i32.const 9; call 0; call 2; drop; i32.const 1; memory.grow; drop; "
	inner := "i64.const 1; i32.const 2; block i64; f64.const 0x0000000000000000; loop; %s; end; drop; i64.const 3; end; drop; drop; drop"
	for trap := int64(impl.TrapUnreachable); trap <= impl.TrapHost; trap++ {
		for _, body := range trapBodies()[trap] {
			for _, around := range []string{"%s", inner} {
				s := stage("->", "", "global.get 0; i32.const 5; i32.ne; if; "+do+"end; "+fmt.Sprintf(around, body))
				s.In = ends(3, 4)
				got := checkRun(t, body, s, 4)
				if !same(got.State, impl.State{Status: impl.Trapped, Trap: trap}) {
					t.Errorf("%s: %+v, want trap %d", body, got.State, trap)
				}
				want := copyOf(s)
				want.Globals[0].Val, want.Out, want.In = 5, []impl.Told{{Host: 1, Val: 9}}, ends(4)
				want.Mems[0].Data = append(want.Mems[0].Data, pagesOf(1)...)
				copy(want.Mems[0].Data[9:], "\xfe\xff")
				if !same(got.Store, want) {
					t.Errorf("%s: what was done before the trap: %+v", body, shown(got.Store))
				}
				again := impl.Resume(got.Store, got.State, 10)
				mustSame(t, "behind the trap", again, impl.RunRes{State: got.State, Store: got.Store})
			}
		}
	}
	bodies := trapBodies()
	delete(bodies, impl.TrapDepth) // its call is one of function 4, which has another type here
	for trap, list := range bodies {
		s := stage("i32 -> i64", " 2 f32", "local.get 0; i64.const 4; call 5")
		s.Funcs[5].Body = stage("-> i64", "", list[0]+"; i64.const 1").Funcs[4].Body
		if got := checkRun(t, list[0], s, 4, 3); !same(got.State, impl.State{Status: impl.Trapped, Trap: trap}) {
			t.Errorf("%s in a call: Err %d: %+v", list[0], got.Err, got.State)
		}
	}
}

// TestRunOfOthers runs functions of one instance that use what is another's.
func TestRunOfOthers(t *testing.T) {
	lib := "type i32 -> i32; type i32 ->; func 0; func 1; table 2; memory 1; global i32 var; i32.const 1; end; export \"get\" func 0; export \"put\" func 1; export \"t\" table 0; export \"m\" memory 0; export \"g\" global 0; elem 0; i32.const 1; end; " +
		"code; local.get 0; i32.load 2 0; global.get 0; i32.add; end; code; i32.const 0; local.get 0; i32.store 2 0; local.get 0; global.set 0; end"
	use := "type i32 ->; type i32 -> i32; import \"\" \"put\" func 0; import \"\" \"t\" table 2; import \"\" \"g\" global i32 var; func 1; memory 2 2; global i32 var; i32.const 500; end; export \"run\" func 1; elem 1; i32.const 0; end; " +
		"code; i32.const 7; i32.const 70; i32.store 2 0; local.get 0; call 0; i32.const 0; i32.const 1; call_indirect 1; global.get 0; i32.add; i32.const 7; i32.load 2 0; i32.add; memory.size; i32.add; global.get 1; i32.add; end"
	s := linked(t, impl.StoreNew(), moduleOf(lib))
	s = linked(t, s, moduleOf(use), extern(0, 5), extern(1, 0), extern(3, 0))
	got := checkRun(t, "others", s, 6, 11)
	if !slices.Equal(got.State.Stack, ends(11+11+11+70+2+500)) {
		t.Errorf("%+v", got.State)
	}
	if got.Store.Mems[0].Data[0] != 11 || got.Store.Mems[1].Data[7] != 70 || got.Store.Mems[1].Data[0] != 0 || got.Store.Globals[0].Val != 11 {
		t.Errorf("%+v", shown(got.Store))
	}
	if got := impl.Invoke(s, 6, ends(math.MaxUint32), 100); got.State.Status != impl.Done {
		t.Errorf("%+v", got.State)
	}
}
