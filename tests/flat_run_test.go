package tests

import (
	"fmt"
	"slices"
	"testing"

	"loop.example/s00119/impl"
)

// TestRunFlatErrs: each Err alone, and with all that come behind it.
func TestRunFlatErrs(t *testing.T) {
	everyCause(func(s impl.Store, f int64, args []uint64, fuel int64, err int64) {
		got := impl.RunFlat(s, f, args, fuel)
		if got.Err != err || err != 0 && !same(got, impl.FlatRes{Err: err}) || err == 0 && !same(got.Store, s) {
			t.Fatalf("f %d, %v, fuel %d: Err %d, want %d", f, args, fuel, got.Err, err)
		}
	})
}

func TestFlatFuel(t *testing.T) {
	s := hosted("type i64 -> i64; func 0; code; local.get 0; i64.eqz; if i64; i64.const 1; else; local.get 0; local.get 0; i64.const 1; i64.sub; call 0; i64.mul; end; end")
	// In each call three ahead, six and the return, but in the last one.
	const all = 5*10 + 6
	for fuel := range int64(all + 4) {
		got := impl.RunFlat(s, 4, ends(5), fuel)
		want := impl.FlatRes{Store: s}
		if fuel >= all {
			want.Status, want.Results = impl.Done, ends(120)
		}
		mustSameFlat(t, fuel, got, want)
	}
	end := hosted("type ->; func 0; code; unreachable; end")
	for fuel := range int64(3) {
		want := impl.FlatRes{Status: min(fuel, 1) * impl.Trapped, Trap: min(fuel, 1), Store: end}
		mustSameFlat(t, fuel, impl.RunFlat(end, 4, nil, fuel), want)
	}
	none := stage("->", "", "nop")
	mustSameFlat(t, "a return alone", impl.RunFlat(none, 4, nil, 0), impl.FlatRes{Store: none})
	mustSameFlat(t, "a return alone", impl.RunFlat(none, 4, nil, 1), impl.FlatRes{Status: impl.Done, Store: none})
}

// TestFlatFuelMax has a run that never ends, one that ends with the last of all
// fuel, and one that would with one more.
func TestFlatFuelMax(t *testing.T) {
	s := hosted("type ->; func 0; code; loop; br 0; end; end")
	mustSameFlat(t, "for ever", impl.RunFlat(s, 4, nil, impl.FuelMax), impl.FlatRes{Store: s})
	// Rounds of 5, and 5 more.
	count := "type i32 ->; func 0; global i32 var; i32.const 0; end; code; loop; local.get 0; i32.const 1; i32.sub; local.tee 0; br_if 0; end; %si32.const 7; global.set 0; i32.const 8; global.set 0; end"
	rounds := ends((impl.FuelMax - 5) / 5)
	for _, more := range []string{"", "nop; block; end; "} {
		got, used := checkFlat(t, "the last", hosted(fmt.Sprintf(count, more)), 4, rounds, 0)
		if used != impl.FuelMax || got.Status != impl.Done || got.Store.Globals[0].Val != 8 {
			t.Errorf("used %d: %d", used, got.Status)
		}
	}
	got := impl.RunFlat(hosted(fmt.Sprintf(count, "global.get 0; drop; ")), 4, rounds, impl.FuelMax)
	if got.Status != impl.Running || got.Store.Globals[0].Val != 7 || len(got.Results) != 0 {
		t.Errorf("too long: %d, %+v", got.Status, got.Store.Globals)
	}
}

// TestFlatLonger: by br_if out of a function flat code takes one step more.
func TestFlatLonger(t *testing.T) {
	s := stage("i32 ->", "", "local.get 0; br_if 0; call 6")
	got, used := checkFlat(t, "out", s, 4, ends(1), 5)
	if whole := impl.Invoke(s, 4, ends(1), 100); whole.Used != 2 || used != 3 || got.Status != impl.Done {
		t.Errorf("%d and %d steps", whole.Used, used)
	}
	got, used = checkFlat(t, "on", s, 4, ends(0), 5)
	if whole := impl.Invoke(s, 4, ends(0), 100); whole.Used != 9 || used != 9 || got.Store.Globals[0].Val != 41 {
		t.Errorf("%d and %d steps", whole.Used, used)
	}
}

// TestFlatRunning: the store is as it is when the fuel is used up.
func TestFlatRunning(t *testing.T) {
	s := stage("-> i32", "", "block; i32.const 5; global.set 0; i32.const 2; i64.const -2; i64.store16 0 1; call 2; call 0; i32.const 1; memory.grow; drop; call 6; i32.const 0; br_if 0; end; i32.const 9")
	s.In = ends(3, 4)
	want := copyOf(s)
	changes := map[int64]func(){
		2:  func() { want.Globals[0].Val = 5 },
		5:  func() { copy(want.Mems[0].Data[3:], "\xfe\xff") },
		6:  func() { want.In = ends(4) },
		7:  func() { want.Out = []impl.Told{{Host: 1, Val: 3}} },
		9:  func() { want.Mems[0].Data = append(want.Mems[0].Data, pagesOf(1)...) },
		15: func() { want.Globals[0].Val = 6 },
	}
	for fuel := range int64(20) {
		if do := changes[fuel]; do != nil {
			do()
		}
		mustSameFlat(t, fuel, impl.RunFlat(s, 4, nil, fuel), impl.FlatRes{Store: want})
	}
	mustSameFlat(t, 20, impl.RunFlat(s, 4, nil, 20), impl.FlatRes{Status: impl.Done, Results: ends(9), Store: want})
}

func TestFlatDepth(t *testing.T) {
	for _, call := range []string{"call 4", "i32.const 4; call_indirect 0"} {
		for _, last := range []string{"nop", "i32.const 7; call 0", "call 2; drop"} {
			s := deep(call, last)
			got, _ := checkFlat(t, call, s, 4, ends(199), 0)
			if got.Status != impl.Done || !slices.Equal(got.Results, ends(204)) {
				t.Errorf("%s, %s: %d, %v", call, last, got.Status, got.Results)
			}
			for _, n := range []uint64{200, 201, 1<<32 - 1} {
				got, _ := checkFlat(t, call, s, 4, ends(n), 0)
				if got.Status != impl.Trapped || got.Trap != impl.TrapDepth || len(got.Results) != 0 {
					t.Errorf("%s, %s: one more: %d, %d", call, last, got.Status, got.Trap)
				}
			}
		}
	}
	for n, trap := range map[uint64]int64{198: 0, 199: impl.TrapDepth} {
		if got, _ := checkFlat(t, n, deep("call 4", "call 6"), 4, ends(n), 0); got.Trap != trap {
			t.Errorf("%d: trap %d", n, got.Trap)
		}
	}
}

// TestFlatTraps: every trap, and what was done before it stays done.
func TestFlatTraps(t *testing.T) {
	do := "i32.const 5; global.set 0; i32.const 9; i32.const -2; i32.store16 1 0; i32.const 9; call 0; call 2; drop; "
	for trap := int64(impl.TrapUnreachable); trap <= impl.TrapHost; trap++ {
		for _, body := range trapBodies()[trap] {
			s := stage("->", "", "global.get 0; i32.const 5; i32.ne; if; "+do+"end; i64.const 1; block i32; "+body+"; i32.const 1; end; drop; drop")
			s.In = ends(3, 4)
			got, _ := checkFlat(t, body, s, 4, nil, 25)
			want := copyOf(s)
			want.Globals[0].Val, want.Out, want.In = 5, []impl.Told{{Host: 1, Val: 9}}, ends(4)
			copy(want.Mems[0].Data[9:], "\xfe\xff")
			mustSameFlat(t, body, got, impl.FlatRes{Status: impl.Trapped, Trap: trap, Store: want})
		}
	}
}

// TestFlatOutFull: Out can be full, but not more than that.
func TestFlatOutFull(t *testing.T) {
	for _, room := range []int{0, 1, 2} {
		s := stage("-> i64", "", "i64.const 4; i32.const 6; call 0; i64.const 7; call 1")
		s.Out = slices.Repeat([]impl.Told{{Host: 2, Val: 1}}, 1000-room)
		got, _ := checkFlat(t, room, s, 4, nil, 9)
		if done := got.Status == impl.Done; done != (room == 2) || got.Trap != 0 && got.Trap != impl.TrapHost || len(got.Store.Out) != 1000 {
			t.Errorf("room for %d: %d, %d told", room, got.Status, len(got.Store.Out))
		}
	}
}

// TestFlatIsNewMemory: answers share nothing with arguments, nor with each
// other, nor do the lists of one of them.
func TestFlatIsNewMemory(t *testing.T) {
	s := deep("i32.const 4; call_indirect 0", "i32.const 7; call 0; call 2; drop; i32.const 1; memory.grow; drop; block; block; i32.const 1; br_table 0 1; end; i32.const 1; br_table 0 0 0; end")
	s.In, s.Out = ends(1, 2, 3), []impl.Told{{Host: 2, Val: 1}}
	args := ends(4)
	before, given := copyOf(s), slices.Clone(args)
	_, used := refRunFlat(s, 4, args, impl.FuelMax)
	last := impl.RunFlat(s, 4, args, 0)
	for n := range used + 1 {
		part := impl.RunFlat(s, 4, args, n)
		checkApart(t, s, args, part, last)
		aside := copyOf(part)
		ruin(&impl.RunRes{Store: last.Store, State: impl.State{Stack: last.Results}})
		mustSameFlat(t, n, part, aside)
		last = part
	}
	if last.Status != impl.Done {
		t.Errorf("status %d", last.Status)
	}
	code, again := impl.Flatten(s, 4), impl.Flatten(s, 4)
	checkApart(t, s, code, again)
	aside := copyOf(code)
	for i := range again {
		clear(again[i].L)
	}
	clear(again)
	if !same(code, aside) || !same(s, before) || !slices.Equal(args, given) {
		t.Errorf("an answer hangs on another one, or on an argument")
	}
}

// TestFlatShortBodies goes through all short bodies out of some alphabets.
func TestFlatShortBodies(t *testing.T) {
	t.Parallel()
	rows := []struct {
		ty       string
		alphabet string
		left     int
	}{
		{"", "block; loop; i32.const 1; if; else; end; br 0; br_if 1; nop; unreachable", 5},
		{"-> i32", "i32.const 1; block i32; if i32; else; end; br 0; br_if 1; br_table 0 1; drop", 7},
		{"-> i64", "i64.const 4; i32.const 0; block i64; loop; end; br 1; br_if 0; return; drop", 6},
		{"", "i32.const 2; block; if; else; end; br_table 0 1; br_table 1 0 2; return", 6},
		{"-> i32", "i32.const 3; i64.const 5; loop i32; end; br_if 1; br_table 1; select; drop; unreachable", 6},
	}
	s := hosted("type ->; func 0; code; end")
	for _, r := range rows {
		m := bodyModule(funcType(r.ty), nil)
		w := walk{t: t, alphabet: asm(r.alphabet), m: m}
		w.see = func(m impl.Module) {
			s.Funcs[4].Type, s.Funcs[4].Body = funcType(r.ty), m.Codes[1].Body
			checkFlatFuel(t, s.Funcs[4].Body, s, 4, nil, 60, 0)
		}
		w.from(newRefBody(m, 1), nil, r.left)
		t.Logf("%s: %d bodies, %d of them valid", r.alphabet, w.bodies, w.valid)
		if w.valid < 1000 {
			t.Errorf("%s: %d bodies are valid", r.alphabet, w.valid)
		}
	}
}

// flatStore is one of a run module; its bodies have much dead code, if so
// wanted.
func (k maker) flatStore(dead bool) impl.Store {
	m := k.runModule()
	if dead {
		for i := range m.Codes {
			m.Codes[i].Body = k.body(m, int64(i), 20+k.Intn(200))
		}
	}
	return k.runStoreOf(m)
}

// TestFlatPromise flattens and runs many functions.
func TestFlatPromise(t *testing.T) {
	t.Parallel()
	k := newMaker(131)
	status, traps, ops := map[int64]int{}, map[int64]int{}, map[int64]int{}
	longer := 0
	for i := range 900 {
		s := k.flatStore(i%3 == 0)
		if i%10 == 1 {
			s = k.linkedStore()
		}
		for f := int64(4); f < int64(len(s.Funcs)); f++ {
			code := impl.Flatten(s, f)
			for _, x := range code {
				ops[x.Op]++
			}
			if len(code) > len(s.Funcs[f].Body) {
				longer++
			}
			got, _ := checkFlatFuel(t, "made", s, f, k.values(s.Funcs[f].Type.Params), 400, 4)
			status[got.Status]++
			traps[got.Trap]++
		}
	}
	t.Logf("status: %v, traps: %v, ops: %v, longer: %d", status, traps, ops, longer)
	for want := range int64(3) {
		if status[want] < 20 {
			t.Errorf("status %d: %d runs", want, status[want])
		}
	}
	for trap := int64(1); trap <= 10; trap++ {
		if traps[trap] == 0 && trap != impl.TrapDepth {
			t.Errorf("no run has trap %d", trap)
		}
	}
	for _, w := range allOps() {
		none := slices.Contains([]int64{0x01, 0x02, 0x03, 0x05, 0x0b}, w.op)
		if none != (ops[w.op] == 0) {
			t.Errorf("%s: %d times", w.name, ops[w.op])
		}
	}
}
