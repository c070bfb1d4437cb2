package tests

import (
	"fmt"
	"math"
	"slices"
	"testing"

	"loop.example/s00119/impl"
)

// fitsStore has three functions that call each other, with blocks of all kinds,
// and dead code.
//
//	4, i32 -> i64, locals f32 f64           5, i32 f32 -> i32, local i64
//	 0 i64.const 1      11 nop               0 f64.const 0
//	 1 block i64        12 end               1 f32.const 0
//	 2 i32.const 2      13 end               2 i64.const 5
//	 3 loop             14 drop              3 i32.const 0
//	 4 i32.const 1      15 i64.const 9       4 call_indirect 2
//	 5 if               16 br 0              5 drop
//	 6 local.get 0      17 nop (dead)        6 drop
//	 7 f32.const 1      18 end (dead)        7 drop
//	 8 call 5           19 i64.add           8 local.get 0
//	 9 drop             20 end               9 end
//	10 else
//
//	6, i64 -> f32, and 7 of the same type; 8, -> i32; 9 of the type of 5
//	 0 i32.const 1       5 return            9 nop
//	 1 if f32            6 nop (dead)       10 end
//	 2 f32.const 1       7 else (dead)      11 end
//	 3 loop              8 f32.const 2
//	 4 end
func fitsStore() impl.Store {
	return hosted("type i32 -> i64; type i32 f32 -> i32; type i64 -> f32; type f32 -> f32; type -> i32; " +
		"func 0; func 1; func 2; func 2; func 4; func 1; table 1; global i32 var; i32.const 0; end; elem 2; i32.const 0; end; " +
		"code 1 f32 1 f64; i64.const 1; block i64; i32.const 2; loop; i32.const 1; if; local.get 0; f32.const 0x3f800000; call 1; drop; else; nop; end; end; drop; i64.const 9; br 0; nop; end; i64.add; end; " +
		"code 1 i64; f64.const 0x0000000000000000; f32.const 0x00000000; i64.const 5; i32.const 0; call_indirect 2; drop; drop; drop; local.get 0; end; " +
		"code; i32.const 1; if f32; f32.const 0x3f800000; loop; end; return; nop; else; f32.const 0x40000000; nop; end; end; " +
		"code; f32.const 0x00000000; end; " +
		"code; i32.const 7; end; " +
		"code; local.get 0; end")
}

// fitsState is one in the midst of function 6, called by 5, called by 4.
func fitsState() impl.State {
	return impl.State{
		Stack: ends(1, 2, 1<<63, 1<<32-1, 7),
		Frames: []impl.Frame{
			{Func: 4, Pc: 9, Locals: ends(1<<32-1, 8, 1<<63), Labels: []impl.Label{{Pc: 19, Arity: 1, Height: 1}, {Pc: 4, Height: 2, Loop: true}, {Pc: 13, Height: 2}}},
			{Func: 5, Pc: 5, Locals: ends(3, 4, 1<<64-1), Height: 2},
			{Func: 6, Pc: 4, Locals: ends(1 << 40), Height: 4, Labels: []impl.Label{{Pc: 11, Arity: 1, Height: 4}, {Pc: 4, Height: 5, Loop: true}}},
		},
	}
}

// fitsRow is a change of fitsState, and the one sentence of the document that
// then does not hold, empty if all do.
type fitsRow struct {
	name  string
	do    func(t *impl.State)
	wrong string
}

// checkStateFits holds StateFits against the other checker of the tests, and Resume
// with it.
func checkStateFits(t *testing.T, what any, s impl.Store, state impl.State, codes refCodes) []string {
	t.Helper()
	wrong := stateWrong(s, state, codes)
	aside := copyOf(state)
	if got := impl.StateFits(s, state); got != (len(wrong) == 0) {
		t.Fatalf("%v: %v; what does not hold: %v: %+v", what, got, wrong, state)
	}
	got := impl.Resume(s, state, 1)
	if len(wrong) > 0 {
		mustSame(t, what, got, impl.RunRes{Err: impl.RnState})
	} else {
		mustSame(t, what, got, refResume(s, state, 1))
		checkStep(t, what, codes, impl.RunRes{State: state, Store: s}, got)
	}
	if !same(state, aside) {
		t.Fatalf("%v: the state was written to", what)
	}
	return wrong
}

func checkFitsRows(t *testing.T, rows []fitsRow) {
	t.Helper()
	s := fitsStore()
	codes := codesOf(s)
	for _, r := range rows {
		state := fitsState()
		r.do(&state)
		wrong := checkStateFits(t, r.name, s, state, codes)
		if r.wrong == "" && len(wrong) > 0 || r.wrong != "" && !slices.Equal(wrong, []string{r.wrong}) {
			t.Errorf("%s: the tests' row breaks %v, not %q alone", r.name, wrong, r.wrong)
		}
		if impl.StateFits(impl.Store{}, state) {
			t.Errorf("%s: fits no store", r.name)
		}
	}
}

func TestFitsStatus(t *testing.T) {
	rows := []fitsRow{{"as it is", func(t *impl.State) {}, ""}}
	for _, status := range []int64{-1, 3, 4, math.MinInt64, math.MaxInt64, 1 << 32} {
		rows = append(rows, fitsRow{fmt.Sprint("status ", status), func(t *impl.State) { t.Status = status }, "status"})
	}
	for _, trap := range []int64{-1, 1, 5, 10, 11, math.MinInt64, 1 << 32} {
		rows = append(rows, fitsRow{fmt.Sprint("running with trap ", trap), func(t *impl.State) { t.Trap = trap }, "trap"})
		rows = append(rows, fitsRow{fmt.Sprint("done with trap ", trap), func(t *impl.State) { *t = impl.State{Status: 1, Trap: trap} }, "trap"})
	}
	for trap := int64(-2); trap < 14; trap++ {
		wrong := ""
		if trap < 1 || trap > 10 {
			wrong = "trap"
		}
		rows = append(rows, fitsRow{fmt.Sprint("trapped by ", trap), func(t *impl.State) { *t = impl.State{Status: 2, Trap: trap} }, wrong})
	}
	for _, trap := range []int64{math.MinInt64, math.MaxInt64, 1<<32 + 1} {
		rows = append(rows, fitsRow{fmt.Sprint("trapped by ", trap), func(t *impl.State) { *t = impl.State{Status: 2, Trap: trap} }, "trap"})
	}
	checkFitsRows(t, append(rows,
		fitsRow{"nothing at all", func(t *impl.State) { *t = impl.State{} }, "frames"},
		fitsRow{"values, but no frames", func(t *impl.State) { t.Frames = nil }, "frames"},
		fitsRow{"done", func(t *impl.State) { *t = impl.State{Status: 1} }, ""},
		fitsRow{"done with a value", func(t *impl.State) { *t = impl.State{Status: 1, Stack: ends(1<<64 - 1)} }, ""},
		fitsRow{"done with two values", func(t *impl.State) { *t = impl.State{Status: 1, Stack: ends(1, 2)} }, "stack"},
		fitsRow{"done with frames", func(t *impl.State) { t.Status, t.Stack = 1, nil }, "frames"},
		fitsRow{"trapped with a value", func(t *impl.State) { *t = impl.State{Status: 2, Trap: 1, Stack: ends(1)} }, "stack"},
		fitsRow{"trapped with frames", func(t *impl.State) { t.Status, t.Trap, t.Stack = 2, 1, nil }, "frames"},
	))
}

func TestFitsStack(t *testing.T) {
	rows := []fitsRow{
		{"one more", func(t *impl.State) { t.Stack = append(t.Stack, 0) }, "stack"},
		{"one less", func(t *impl.State) { t.Stack = t.Stack[:4] }, "stack"},
		{"none", func(t *impl.State) { t.Stack = nil }, "stack"},
		{"many", func(t *impl.State) { t.Stack = append(t.Stack, make([]uint64, 300)...) }, "stack"},
		{"an i64", func(t *impl.State) { t.Stack[0] = 1<<64 - 1 }, ""},
		{"an i32", func(t *impl.State) { t.Stack[1] = 1<<32 - 1 }, ""},
		{"an f64", func(t *impl.State) { t.Stack[2] = 1<<64 - 1 }, ""},
		{"an f32", func(t *impl.State) { t.Stack[3] = 0 }, ""},
	}
	for _, v := range []uint64{1 << 32, 1 << 63, 1<<64 - 1} {
		for _, at := range []int{1, 3, 4} {
			rows = append(rows, fitsRow{fmt.Sprintf("%#x at %d", v, at), func(t *impl.State) { t.Stack[at] = v }, "upper half"})
		}
		rows = append(rows,
			fitsRow{fmt.Sprintf("%#x, an i32 local", v), func(t *impl.State) { t.Frames[0].Locals[0] = v }, "upper half"},
			fitsRow{fmt.Sprintf("%#x, an f32 local", v), func(t *impl.State) { t.Frames[0].Locals[1] = v }, "upper half"},
			fitsRow{fmt.Sprintf("%#x, an f64 local", v), func(t *impl.State) { t.Frames[0].Locals[2] = v }, ""},
			fitsRow{fmt.Sprintf("%#x, an f32 parameter", v), func(t *impl.State) { t.Frames[1].Locals[1] = v }, "upper half"},
			fitsRow{fmt.Sprintf("%#x, an i64 local", v), func(t *impl.State) { t.Frames[1].Locals[2] = v }, ""},
			fitsRow{fmt.Sprintf("%#x, an i64 parameter", v), func(t *impl.State) { t.Frames[2].Locals[0] = v }, ""},
		)
	}
	for i := range 3 {
		rows = append(rows,
			fitsRow{fmt.Sprint("a local more, ", i), func(t *impl.State) { t.Frames[i].Locals = append(t.Frames[i].Locals, 0) }, "locals"},
			fitsRow{fmt.Sprint("a local less, ", i), func(t *impl.State) { t.Frames[i].Locals = t.Frames[i].Locals[1:] }, "locals"},
			fitsRow{fmt.Sprint("no locals, ", i), func(t *impl.State) { t.Frames[i].Locals = nil }, "locals"},
		)
	}
	checkFitsRows(t, rows)
}

func TestFitsFuncs(t *testing.T) {
	var rows []fitsRow
	for i := range 3 {
		for _, f := range []int64{-1, 0, 1, 2, 3, 10, 11, math.MinInt64, math.MaxInt64, 1<<32 + 4} {
			rows = append(rows, fitsRow{fmt.Sprint("func ", f, " at ", i), func(t *impl.State) { t.Frames[i].Func = f }, "func"})
		}
	}
	top := func(f, pc int64, height int64, locals []uint64, labels ...impl.Label) func(t *impl.State) {
		return func(t *impl.State) {
			t.Frames[2] = impl.Frame{Func: f, Pc: pc, Height: height, Locals: locals, Labels: labels}
			t.Stack = t.Stack[:4]
		}
	}
	checkFitsRows(t, append(rows,
		fitsRow{"another function of the type, behind call_indirect", top(7, 0, 4, ends(1)), ""},
		fitsRow{"one of another type, behind call_indirect", top(8, 0, 4, nil), "a call"},
		fitsRow{"the caller itself, behind call_indirect", top(5, 0, 4, ends(1, 2, 3)), "a call"},
		fitsRow{"another one of another type, behind call", func(t *impl.State) {
			t.Frames, t.Stack = []impl.Frame{t.Frames[0], {Func: 8, Height: 2}}, ends(1, 2)
		}, "a call"},
		fitsRow{"another one of the type, behind call", func(t *impl.State) {
			t.Frames, t.Stack = []impl.Frame{t.Frames[0], {Func: 9, Height: 2, Locals: ends(1, 2)}}, ends(1, 2)
		}, "a call"},
		fitsRow{"the caller itself, behind call", func(t *impl.State) {
			t.Frames, t.Stack = []impl.Frame{t.Frames[0], {Func: 4, Height: 2, Locals: ends(1, 2, 3)}}, ends(1, 2)
		}, "a call"},
		fitsRow{"the first two frames alone", func(t *impl.State) { t.Frames, t.Stack = t.Frames[:2], append(t.Stack[:4:4], 5) }, ""},
		fitsRow{"the first two frames alone, without the result", func(t *impl.State) { t.Frames, t.Stack = t.Frames[:2], t.Stack[:4] }, "stack"},
		fitsRow{"the first frame alone", func(t *impl.State) { t.Frames, t.Stack = t.Frames[:1], append(t.Stack[:2:2], 5) }, ""},
		fitsRow{"the first frame alone, without the result", func(t *impl.State) { t.Frames, t.Stack = t.Frames[:1], t.Stack[:2] }, "stack"},
	))
}

// TestFitsCallers: a frame below the last one stands behind a call.
func TestFitsCallers(t *testing.T) {
	at := func(pc int64, stack ...uint64) func(t *impl.State) {
		return func(t *impl.State) {
			t.Frames[1].Pc = pc
			t.Frames[2] = impl.Frame{Func: 6, Locals: ends(1), Height: 2 + int64(len(stack))}
			t.Stack = append(t.Stack[:2:2], stack...)
		}
	}
	checkFitsRows(t, []fitsRow{
		{"behind the call", at(5, 1, 2), ""},
		{"at it", at(4, 1, 2, 3, 4), "a call"},
		{"one behind it", at(6, 1, 2), "a call"},
		{"at the beginning", at(0), "a call"},
		{"behind a constant", at(1, 1), "a call"},
		{"at the end", at(9, 1), "a call"},
		{"with the result already there", at(5, 1, 2, 3), "stack"},
		{"without what is below", at(5, 1), "stack"},
	})
	s := fitsStore()
	s.Tables[0].Elems[0] = -1
	if !impl.StateFits(s, fitsState()) {
		t.Errorf("what stands in the table now is not asked")
	}
	s = fitsStore()
	s.Funcs[4].Body[8], s.Insts[0].Funcs = impl.Ins{Op: 0x10, A: 6}, append(s.Insts[0].Funcs, 5)
	if !impl.StateFits(s, fitsState()) {
		t.Errorf("the address counts, not the index")
	}
}

func TestFitsPlaces(t *testing.T) {
	last := func(pc int64, labels []impl.Label, stack ...uint64) func(t *impl.State) {
		return func(t *impl.State) {
			t.Frames[2].Pc, t.Frames[2].Labels = pc, labels
			t.Stack = append(t.Stack[:4:4], stack...)
		}
	}
	choice := []impl.Label{{Pc: 11, Arity: 1, Height: 4}}
	loop := append(slices.Clone(choice), impl.Label{Pc: 4, Height: 5, Loop: true})
	rows := []fitsRow{
		{"0", last(0, nil), ""}, {"1", last(1, nil, 6), ""}, {"2", last(2, choice), ""}, {"3", last(3, choice, 6), ""}, {"4", last(4, loop, 6), ""},
		{"5", last(5, choice, 6), ""}, {"6", last(6, choice), "dead"}, {"7", last(7, choice), "dead"}, {"7 with a value", last(7, choice, 6), "dead"},
		{"8", last(8, choice), ""}, {"9", last(9, choice, 6), ""}, {"10", last(10, choice, 6), ""}, {"11", last(11, nil, 6), ""},
		{"at the end of the body without the value", last(11, nil), "stack"}, {"at the beginning with a value", last(0, nil, 1), "stack"},
		{"at the end of the if without its label", last(10, nil, 6), "labels"}, {"behind it with its label", last(11, choice, 6), "labels"},
		{"at the end of the loop without its label", last(4, choice, 6), "labels"}, {"before the if with its label", last(1, choice, 6), "labels"},
	}
	for _, pc := range []int64{-1, 12, 13, math.MinInt64, math.MaxInt64, 1<<32 + 4} {
		rows = append(rows, fitsRow{fmt.Sprint("pc ", pc), last(pc, loop, 6), "pc"})
	}
	rows = append(rows, fitsRow{"behind the end of the body", last(12, nil, 6), "pc"}, fitsRow{"behind it, with nothing", last(12, nil), "pc"})
	for i := range 3 {
		rows = append(rows, fitsRow{fmt.Sprint("no pc at ", i), func(t *impl.State) { t.Frames[i].Pc = -1 }, "pc"}, fitsRow{fmt.Sprint("far at ", i), func(t *impl.State) { t.Frames[i].Pc = 21 }, "pc"})
	}
	only := func(pc int64, labels []impl.Label, stack ...uint64) func(t *impl.State) {
		return func(t *impl.State) {
			t.Frames = t.Frames[:1]
			t.Frames[0].Pc, t.Frames[0].Labels, t.Stack = pc, labels, stack
		}
	}
	outer := fitsState().Frames[0].Labels
	checkFitsRows(t, append(rows,
		fitsRow{"at an else", only(10, outer, 1, 2), ""}, fitsRow{"within the else-part", only(11, outer, 1, 2), ""}, fitsRow{"at its end", only(12, outer, 1, 2), ""},
		fitsRow{"at an else without its label", only(10, outer[:2], 1, 2), "labels"}, fitsRow{"behind it", only(13, outer[:2], 1, 2), ""},
		fitsRow{"at the branch", only(16, outer[:1], 1, 9), ""}, fitsRow{"behind it", only(17, outer[:1], 1), "dead"}, fitsRow{"behind it, with what it takes", only(17, outer[:1], 1, 9), "dead"},
		fitsRow{"at the dead end", only(18, outer[:1], 1, 9), "dead"}, fitsRow{"behind the dead end", only(19, nil, 1, 9), ""},
	))
}

func TestFitsLabels(t *testing.T) {
	var rows []fitsRow
	add := func(name string, i int, do func(labels []impl.Label) []impl.Label) {
		rows = append(rows, fitsRow{fmt.Sprint(name, " at ", i), func(t *impl.State) { t.Frames[i].Labels = do(t.Frames[i].Labels) }, "labels"})
	}
	for _, i := range []int{0, 2} {
		n := len(fitsState().Frames[i].Labels)
		add("none", i, func(labels []impl.Label) []impl.Label { return nil })
		add("without the first", i, func(labels []impl.Label) []impl.Label { return labels[1:] })
		add("without the last", i, func(labels []impl.Label) []impl.Label { return labels[:n-1] })
		add("the first twice", i, func(labels []impl.Label) []impl.Label { return append(labels[:1:1], labels...) })
		add("the last twice", i, func(labels []impl.Label) []impl.Label { return append(labels, labels[n-1]) })
		add("one for the body", i, func(labels []impl.Label) []impl.Label {
			return append([]impl.Label{{Pc: 21, Arity: 1}}, labels...)
		})
		add("another order", i, func(labels []impl.Label) []impl.Label { slices.Reverse(labels); return labels })
		for at := range n {
			for _, d := range []int64{-1, 1, 1 << 32, math.MinInt64} {
				add(fmt.Sprint("pc ", d), i, func(labels []impl.Label) []impl.Label { labels[at].Pc += d; return labels })
				add(fmt.Sprint("arity ", d), i, func(labels []impl.Label) []impl.Label { labels[at].Arity += d; return labels })
				add(fmt.Sprint("height ", d), i, func(labels []impl.Label) []impl.Label { labels[at].Height += d; return labels })
			}
			add("loop", i, func(labels []impl.Label) []impl.Label { labels[at].Loop = !labels[at].Loop; return labels })
		}
	}
	add("one", 1, func(labels []impl.Label) []impl.Label { return []impl.Label{{Pc: 9, Height: 2}} })
	add("heights from 0", 2, func(labels []impl.Label) []impl.Label {
		labels[0].Height, labels[1].Height = 0, 1
		return labels
	})
	checkFitsRows(t, rows)
}

// TestFitsHeights: those of labels go with the frame's, so that a frame's alone
// is changed where it has none.
func TestFitsHeights(t *testing.T) {
	var rows []fitsRow
	for _, d := range []int64{-3, -2, -1, 1, 2, 3, 4, 1 << 32, math.MaxInt64, math.MinInt64} {
		rows = append(rows,
			fitsRow{fmt.Sprint("in the midst ", d), func(t *impl.State) { t.Frames[1].Height += d }, "stack"},
			fitsRow{fmt.Sprint("the last one ", d), func(t *impl.State) {
				t.Frames[2] = impl.Frame{Func: 6, Locals: ends(1), Height: 4 + d}
				t.Stack = t.Stack[:4]
			}, "stack"},
		)
	}
	s := fitsStore()
	codes := codesOf(s)
	for _, d := range []int64{-1, 1, 2, 1 << 32} {
		state := fitsState()
		state.Frames, state.Stack = state.Frames[1:2], ends(1, 2, 3)
		if state.Frames[0].Height = 0; len(checkStateFits(t, "first at 0", s, state, codes)) > 0 {
			t.Errorf("first at 0: %v", stateWrong(s, state, codes))
		}
		state.Frames[0].Height = d
		state.Stack = append(make([]uint64, min(max(d, 0), 2)), state.Stack...)
		if wrong := checkStateFits(t, "first", s, state, codes); !slices.Contains(wrong, "first height") {
			t.Errorf("first at %d: %v", d, wrong)
		}
		state = fitsState()
		for i := range state.Frames {
			state.Frames[i].Height += d
			for j := range state.Frames[i].Labels {
				state.Frames[i].Labels[j].Height += d
			}
		}
		state.Stack = append(make([]uint64, min(max(d, 0), 2)), state.Stack...)
		if wrong := checkStateFits(t, "all", s, state, codes); !slices.Contains(wrong, "first height") {
			t.Errorf("all moved by %d: %v", d, wrong)
		}
	}
	checkFitsRows(t, rows)
}

// TestFitsDepth: 200 frames, and one more.
func TestFitsDepth(t *testing.T) {
	s := deep("call 4", "nop")
	frame := impl.Frame{Func: 4, Pc: 10, Locals: ends(3, 0), Labels: []impl.Label{{Pc: 13, Arity: 1}}}
	codes := codesOf(s)
	for _, n := range []int{1, 2, 199, 200, 201, 202, 400} {
		state := impl.State{Frames: append(slices.Repeat([]impl.Frame{frame}, n-1), impl.Frame{Func: 4, Locals: ends(3, 0)})}
		wrong := checkStateFits(t, n, s, state, codes)
		if n <= 200 && len(wrong) > 0 || n > 200 && !slices.Equal(wrong, []string{"frames"}) {
			t.Errorf("%d frames: %v", n, wrong)
		}
	}
}
