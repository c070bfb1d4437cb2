package tests

import (
	"fmt"
	"slices"
	"strings"
	"testing"

	"loop.example/s00119/impl"
)

func TestRunBlocks(t *testing.T) {
	checkRunRows(t, []runRow{
		{"->", "", "nop", nil, 0, nil, 2},
		{"-> i32", "", "i32.const 3", nil, 0, ends(3), 2},
		{"-> i64", "", "i64.const -3", nil, 0, ends(1<<64 - 3), 2},
		{"-> f32", "", "f32.const 0x80000000", nil, 0, ends(1 << 31), 2},
		{"-> f64", "", "f64.const 0x7ff0000000000001", nil, 0, ends(0x7ff0000000000001), 2},
		{"->", "", "block; end", nil, 0, nil, 3},
		{"->", "", "block; nop; end; nop", nil, 0, nil, 5},
		{"-> i32", "", "block i32; i32.const 7; end", nil, 0, ends(7), 4},
		{"-> i32", "", "i32.const 1; block i32; i32.const 7; end; i32.sub", nil, 0, ends(1<<32 - 6), 6},
		{"->", "", "loop; end", nil, 0, nil, 3},
		{"-> i64", "", "loop i64; i64.const 8; end", nil, 0, ends(8), 4},
		{"-> f64", "", "block f64; loop f64; block f64; f64.const 0x4000000000000000; end; end; end", nil, 0, ends(1 << 62), 8},
		{"->", "", "block; block; block; end; end; end; block; end", nil, 0, nil, 9},
	})
}

// TestRunIf has conditions of 0 and of other numbers: without an else and with
// one, without a result and with one.
func TestRunIf(t *testing.T) {
	for _, c := range []uint64{0, 1, 2, 1 << 31, 1<<32 - 1} {
		yes, then := uint64(1), int64(1)
		if c == 0 {
			yes, then = 0, 0
		}
		checkRunRows(t, []runRow{
			{"i32 ->", "", "local.get 0; if; end", ends(c), 0, nil, 3 + then},
			{"i32 -> i32", " 1 i32", "local.get 0; if; i32.const 1; local.set 1; end; local.get 1", ends(c), 0, ends(yes), 4 + 3*then},
			{"i32 ->", "", "local.get 0; if; else; end", ends(c), 0, nil, 4},
			{"i32 ->", "", "local.get 0; if; nop; nop; else; nop; end", ends(c), 0, nil, 5 + then},
			{"i32 -> i32", "", "local.get 0; if i32; i32.const 1; else; i32.const 0; end", ends(c), 0, ends(yes), 5},
			{"i32 -> i32", "", "i32.const 9; local.get 0; if i32; i32.const 1; else; i32.const 0; end; i32.add", ends(c), 0, ends(9 + yes), 7},
			{"i32 -> i64", "", "i64.const 3; i64.const 4; local.get 0; if; i32.const 0; drop; else; nop; end; i64.sub", ends(c), 0, ends(1<<64 - 1), 8 + then},
			{"i32 -> i32", "", "local.get 0; if i32; local.get 0; if i32; i32.const 1; else; unreachable; end; else; local.get 0; if i32; unreachable; else; i32.const 0; end; end", ends(c), 0, ends(yes), 8},
			{"i32 -> i32", "", "local.get 0; if; i32.const 1; return; end; i32.const 0", ends(c), 0, ends(yes), 4},
			{"i32 ->", "", "local.get 0; if; nop; else; unreachable; end", ends(c | 1), 0, nil, 0},
		})
	}
}

// ring is a block around a branch: how it begins, and what stands behind its
// inside, up to a place where the stack is as it was (a result is dropped).
type ring struct {
	begin string
	end   string
	loop  bool
}

func rings() []ring {
	return []ring{
		{"block", "end", false},
		{"block i32", "i32.const 90; end; drop", false},
		{"loop", "end", true},
		{"loop i32", "i32.const 91; end; drop", true},
		{"i32.const 1; if", "end", false},
		{"i32.const 1; if i32", "i32.const 92; else; i32.const 93; end; drop", false},
		{"i32.const 0; if; nop; else", "end", false},
		{"i32.const 0; if i32; i32.const 94; else", "i32.const 95; end; drop", false},
	}
}

// marked is a body of three rings, each with a value below it that stays; in
// the innermost one, where some values more are on the stack, stands the
// branch. The way out is marked: global 0 is 10 times itself and the number of
// each place that is come by. Loops that are gone to once more end by local 1.
func marked(outer, middle, inner ring, branch string) string {
	mark := func(n int) string {
		return fmt.Sprintf("global.get 0; i32.const 10; i32.mul; i32.const %d; i32.add; global.set 0", n)
	}
	return strings.Join([]string{
		"i64.const 100; " + outer.begin, "i64.const 200; " + middle.begin, "i64.const 300; " + inner.begin,
		"local.get 1; i32.const 1; i32.add; local.tee 1; i32.const 2; i32.gt_s; if; global.get 0; return; end",
		mark(1), "f64.const 0x0000000000000001; i32.const 7", branch, "unreachable",
		inner.end, mark(2), "drop", middle.end, mark(3), "drop", outer.end, mark(4), "drop; global.get 0",
	}, "; ")
}

// wantMarks is what global 0 is at the end, when the branch goes to label n.
func wantMarks(all []ring, n int) uint64 {
	if n == 3 {
		return 7
	}
	to := all[2-n]
	if to.loop {
		return 4011 // the second time it returns
	}
	marks := uint64(401)
	for i := n; i < 3; i++ {
		marks = marks*10 + uint64(i) + 2
	}
	return marks
}

// TestRunBranches goes from within three blocks of all kinds to each of them,
// and to the body, by br, br_if and br_table.
func TestRunBranches(t *testing.T) {
	for i, outer := range rings() {
		for j, middle := range rings() {
			inner := rings()[(i+3*j)%8]
			for n := range 4 {
				for _, branch := range []string{
					"br %d",
					"i32.const -1; br_if %d",
					"i32.const 0; br_table %d",
					"i32.const -1; br_table %d",
				} {
					body := marked(outer, middle, inner, fmt.Sprintf(branch, n))
					got := checkMarked(t, body)
					if want := wantMarks([]ring{outer, middle, inner}, n); got != want {
						t.Fatalf("%s: %d, want %d", body, got, want)
					}
				}
			}
		}
	}
}

func checkMarked(t *testing.T, body string) uint64 {
	t.Helper()
	s := stage("i32 -> i32", " 1 i32", body)
	got := impl.Invoke(s, 4, []uint64{0}, impl.FuelMax)
	mustSame(t, body, got, refInvoke(s, 4, []uint64{0}, impl.FuelMax))
	if got.State.Status != impl.Done || len(got.State.Stack) != 1 {
		t.Fatalf("%s: %+v", body, got.State)
	}
	return got.State.Stack[0]
}

func TestBodiesOfBranches(t *testing.T) {
	all := rings()
	for i := range all {
		body := marked(all[i], all[(i+1)%8], all[(i+2)%8], fmt.Sprintf("br %d", i%4))
		checkRun(t, body, stage("i32 -> i32", " 1 i32", body), 4, 0)
	}
	rows := []runRow{
		{"-> i32", "", "i32.const 8; br 0", nil, 0, ends(8), 2},
		{"-> i32", "", "i32.const 9; i32.const 8; br 0", nil, 0, ends(8), 3},
		{"-> i32", "", "i64.const 9; block; f64.const 0x0000000000000000; i32.const 8; br 1; end; drop; i32.const 7", nil, 0, ends(8), 5},
		{"-> i32", "", "i32.const 8; i32.const 0; br_if 0; drop; i32.const 9", nil, 0, ends(9), 6},
		{"-> i32", "", "i32.const 8; i32.const 4; br_if 0; drop; i32.const 9", nil, 0, ends(8), 3},
		{"-> i32", "", "block i32; i32.const 9; i32.const 5; br 0; end", nil, 0, ends(5), 5},
		{"-> i64", "", "block i64; f32.const 0x00000000; i64.const 5; i32.const 1; br_if 0; drop; drop; i64.const 6; end", nil, 0, ends(5), 6},
		{"-> i64", "", "block i64; f32.const 0x00000000; i64.const 5; i32.const 0; br_if 0; drop; drop; i64.const 6; end", nil, 0, ends(6), 10},
		{"-> i32", "", "i32.const 1; block; i32.const 2; i32.const 3; br 0; end; i32.const 4; i32.add", nil, 0, ends(5), 8},
	}
	checkRunRows(t, rows)
}

// TestRunLoops has loops that are gone through more than once, with values
// that are left on the stack by each round, and from within blocks.
func TestRunLoops(t *testing.T) {
	checkRunRows(t, []runRow{
		{"i32 -> i32", " 1 i32", "loop; local.get 1; local.get 0; i32.add; local.set 1; local.get 0; i32.const 1; i32.sub; local.tee 0; br_if 0; end; local.get 1", ends(4), 0, ends(10), 4*9 + 4},
		{"i32 -> i32", " 1 i32", "block; loop; local.get 0; i32.eqz; br_if 1; local.get 0; i32.const 1; i32.sub; local.set 0; local.get 1; i32.const 3; i32.add; local.set 1; br 0; end; end; local.get 1", ends(3), 0, ends(9), 0},
		{"i32 -> i32", " 1 i32", "loop i32; i64.const 5; block; local.get 1; i32.const 1; i32.add; local.tee 1; local.get 0; i32.lt_u; br_if 1; end; drop; local.get 1; end", ends(5), 0, ends(5), 0},
		{"i32 -> i32", " 1 i32", "loop; local.get 1; i32.const 1; i32.add; local.tee 1; local.get 0; i32.lt_u; if; br 1; else; end; end; local.get 1", ends(3), 0, ends(3), 0},
		{"i32 -> i32", " 2 i32", "loop; local.get 1; i32.const 1; i32.add; local.tee 1; drop; i32.const 0; local.set 2; loop; local.get 2; i32.const 1; i32.add; local.tee 2; local.get 0; i32.lt_u; br_if 0; local.get 1; local.get 0; i32.lt_u; br_if 1; end; end; local.get 1; i32.const 100; i32.mul; local.get 2; i32.add", ends(3), 0, ends(303), 0},
	})
}

// TestRunTables has br_table at every number of its list, at those beyond, and
// at numbers that would be below it if they had a sign.
func TestRunTables(t *testing.T) {
	body := "block; block; block; block; local.get 0; br_table %s; end; i32.const 10; return; end; i32.const 20; return; end; i32.const 30; return; end; i32.const 40"
	results := []uint64{10, 20, 30, 40}
	for _, list := range [][]int{{0}, {3}, {1, 0}, {0, 1, 2, 3}, {3, 2, 1, 0}, {2, 2, 2, 0}, {1, 3, 3, 1, 0, 2}} {
		text := strings.Trim(fmt.Sprint(list), "[]")
		last := len(list) - 1
		for n := range last + 3 {
			checkRunRows(t, []runRow{{"i32 -> i32", "", fmt.Sprintf(body, text), ends(uint64(n)), 0, ends(results[list[min(n, last)]]), 0}})
		}
		for _, n := range []uint64{1<<32 - 1, 1 << 31, 1<<31 - 1, 1 << 16} {
			checkRunRows(t, []runRow{{"i32 -> i32", "", fmt.Sprintf(body, text), ends(n), 0, ends(results[list[last]]), 0}})
		}
	}
	value := "block i64; block i64; i64.const 1; i64.const 2; local.get 0; br_table 0 1 2; end; i64.const 10; i64.mul; end; i64.const 100; i64.add"
	for n, want := range []uint64{120, 102, 2, 2} {
		checkRunRows(t, []runRow{{"i32 -> i64", "", value, ends(uint64(n)), 0, ends(want), 0}})
	}
	loops := "block; loop; local.get 1; i32.const 1; i32.add; local.tee 1; br_table 1 0 0 1; end; end; local.get 1; i32.const 50; i32.add"
	checkRunRows(t, []runRow{{"i32 -> i32", " 1 i32", loops, ends(0), 0, ends(53), 0}})
}

func TestRunReturns(t *testing.T) {
	var rows []runRow
	for _, r := range rings() {
		rows = append(rows,
			runRow{"-> i32", "", "i64.const 1; " + r.begin + "; f32.const 0x00000000; i32.const 6; return; " + r.end + "; drop; i32.const 7", nil, 0, ends(6), 0},
			runRow{"->", "", "i64.const 1; " + r.begin + "; f32.const 0x00000000; i32.const 6; return; " + r.end + "; unreachable", nil, 0, nil, 0},
			runRow{"-> f64", "", r.begin + "; " + r.begin + "; f64.const 0x3ff0000000000000; return; " + r.end + "; unreachable; " + r.end + "; f64.const 0x0000000000000000", nil, 0, ends(0x3ff0000000000000), 0},
		)
	}
	checkRunRows(t, append(rows,
		runRow{"->", "", "return", nil, 0, nil, 1},
		runRow{"-> i32", "", "i32.const 1; i32.const 2; i32.const 3; return", nil, 0, ends(3), 4},
		runRow{"-> i64", "", "i64.const 1; return; i64.const 2", nil, 0, ends(1), 2},
	))
}

// TestBeyondTheOutermost: such a body is not valid, and nothing of it is run.
func TestBeyondTheOutermost(t *testing.T) {
	for _, body := range []string{"br 1; end", "block; br 2; end; end", "i32.const; br_if 1; end", "i32.const; br_table 0 1; end", "i32.const; br_table 1 0; end", "loop; i32.const; br_table 0 4294967295 1; end; end"} {
		s := stage("->", "", "nop")
		s.Funcs[4].Body = asm(body)
		if got := impl.Invoke(s, 4, nil, 10); !same(got, impl.RunRes{Err: impl.RnStore}) {
			t.Errorf("%s: %+v", body, got)
		}
	}
}

// TestLabelsByHand has the state in the midst of blocks, field by field.
func TestLabelsByHand(t *testing.T) {
	//                       0            1          2     3            4            5   6            7    8    9    10
	s := stage("-> i32", "", "i32.const 7; block i32; loop; i64.const 5; i32.const 1; if; i32.const 0; drop; end; drop; end; i32.const 6; end; i32.add")
	outer := impl.Label{Pc: 13, Arity: 1, Height: 1}
	loop := impl.Label{Pc: 3, Height: 1, Loop: true}
	inner := impl.Label{Pc: 9, Height: 2}
	rows := []struct {
		pc     int64
		stack  []uint64
		labels []impl.Label
	}{
		{0, nil, nil}, {1, ends(7), nil}, {2, ends(7), []impl.Label{outer}}, {3, ends(7), []impl.Label{outer, loop}},
		{4, ends(7, 5), []impl.Label{outer, loop}}, {5, ends(7, 5, 1), []impl.Label{outer, loop}},
		{6, ends(7, 5), []impl.Label{outer, loop, inner}}, {7, ends(7, 5, 0), []impl.Label{outer, loop, inner}},
		{8, ends(7, 5), []impl.Label{outer, loop, inner}}, {9, ends(7, 5), []impl.Label{outer, loop}},
		{10, ends(7), []impl.Label{outer, loop}}, {11, ends(7), []impl.Label{outer}}, {12, ends(7, 6), []impl.Label{outer}},
		{13, ends(7, 6), nil}, {14, ends(13), nil},
	}
	for n, r := range rows {
		want := impl.State{Stack: r.stack, Frames: []impl.Frame{{Func: 4, Pc: r.pc, Labels: r.labels}}}
		if got := impl.Invoke(s, 4, nil, int64(n)); !same(got.State, want) || got.Used != int64(n) {
			t.Errorf("behind %d steps: %+v, want %+v", n, got.State, want)
		}
	}
	if got := impl.Invoke(s, 4, nil, 15); !same(got.State, impl.State{Status: impl.Done, Stack: ends(13)}) || got.Used != 15 {
		t.Errorf("at the end: %+v", got.State)
	}
	if !slices.Equal(impl.Invoke(s, 4, nil, 1000).State.Stack, ends(13)) {
		t.Errorf("with more fuel")
	}
}
