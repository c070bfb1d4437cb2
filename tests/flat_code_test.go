package tests

import (
	"fmt"
	"math"
	"strings"
	"testing"

	"loop.example/s00119/impl"
)

// flatRow is a body of the stage, and its flat code.
type flatRow struct {
	ty   string
	body string
	want string
}

// checkFlatRows runs the bodies too, with some numbers; they have a local i32
// behind their parameters.
func checkFlatRows(t *testing.T, rows []flatRow) {
	t.Helper()
	for _, r := range rows {
		s := stage(r.ty, " 1 i32", r.body)
		if got, want := impl.Flatten(s, 4), flats(r.want); !same(got, want) {
			t.Errorf("%s: %+v, want %+v", r.body, got, want)
		}
		for _, first := range []uint64{0, 1, 2, 3, 1<<32 - 1} {
			checkFlat(t, r.body, s, 4, ends(first)[:len(funcType(r.ty).Params)], 20)
		}
	}
}

// TestFlatNothing: block, loop, nop and end make nothing.
func TestFlatNothing(t *testing.T) {
	s := stage("->", "", "nop")
	s.Funcs[4].Body = asm("end")
	if got := impl.Flatten(s, 4); !same(got, flats("return 0 0")) {
		t.Errorf("its end alone: %+v", got)
	}
	checkFlat(t, "its end alone", s, 4, nil, 5)
	checkFlatRows(t, []flatRow{
		{"->", "nop", "return 0 0"},
		{"->", "block; end", "return 0 0"},
		{"->", "loop; end; block; loop; nop; end; nop; end; nop", "return 0 0"},
		{"-> i32", "i32.const 3", "i32.const 3; return 1 0"},
		{"-> i64", "block i64; loop i64; nop; i64.const -3; end; nop; end", "i64.const -3; return 1 0"},
		{"-> f32", "f32.const 0x7fa00001", "f32.const 0x7fa00001; return 1 0"},
		{"-> f64", "loop f64; f64.const 0x0000000000000001; end", "f64.const 0x0000000000000001; return 1 0"},
	})
}

// TestFlatPlain: all other instructions as they are, with A, B and V.
func TestFlatPlain(t *testing.T) {
	for _, body := range []string{
		"local.get 0; local.tee 1; local.set 1; global.get 3; drop; i64.const 7; global.set 1",
		"i32.const 4; i64.load32_s 1 70000; drop; i32.const 4; i64.load32_u 2 5; drop; i32.const 3; f64.const 0x3ff0000000000000; f64.store 3 9",
		"memory.size; memory.grow; drop; local.get 0; call 0; call 6; i32.const 2; call_indirect 4; call 3; unreachable",
		"f32.const 0x3f800000; f64.const 0x4000000000000000; i32.const 3; i64.const 4; call 7; i32.trunc_f64_s; local.get 0; i32.div_s; local.get 0; local.get 0; select; drop",
	} {
		checkFlatRows(t, []flatRow{{"i32 ->", body, body + "; return 0 0"}})
	}
	for _, w := range allOps() {
		if w.op < 0x28 {
			continue
		}
		x := ins(w.op)
		switch w.form {
		case 5:
			x.A, x.B = 0, 11
		case 7, 9:
			x.V = 1<<32 - 5
		case 8, 10:
			x.V = 1<<64 - 5
		}
		list := append(consts(letters(w.params)), x)
		body := append(list, asm("drop; end")[1-len(w.results):]...)
		s := stage("->", "", "nop")
		s.Funcs[4].Body = body
		got := impl.Flatten(s, 4)
		want := impl.Flat{Op: x.Op, A: x.A, B: x.B, V: x.V}
		if len(got) != len(body) || !same(got[len(list)-1], want) {
			t.Errorf("%s: %+v, want %+v", w.name, got, want)
		}
		checkFlat(t, w.name, s, 4, nil, 5)
	}
}

func TestFlatIf(t *testing.T) {
	checkFlatRows(t, []flatRow{
		{"i32 ->", "local.get 0; if; end", "local.get 0; jump_unless 2; return 0 0"},
		{"i32 ->", "local.get 0; if; call 6; end", "local.get 0; jump_unless 3; call 6; return 0 0"},
		{"i32 ->", "local.get 0; if; nop; else; nop; end", "local.get 0; jump_unless 3; jump 3; return 0 0"},
		{"i32 ->", "local.get 0; if; else; call 6; end", "local.get 0; jump_unless 3; jump 4; call 6; return 0 0"},
		{"i32 ->", "local.get 0; if; call 6; else; end; call 6", "local.get 0; jump_unless 4; call 6; jump 4; call 6; return 0 0"},
		{"i32 -> i32", "local.get 0; if i32; i32.const 1; else; i32.const 2; end", "local.get 0; jump_unless 4; i32.const 1; jump 5; i32.const 2; return 1 0"},
		{"i32 -> i32", "i64.const 5; local.get 0; if i32; i32.const 1; else; i32.const 2; end; local.set 1; drop; local.get 1",
			"i64.const 5; local.get 0; jump_unless 5; i32.const 1; jump 6; i32.const 2; local.set 1; drop; local.get 1; return 1 0"},
		{"i32 ->", "local.get 0; if; unreachable; else; end", "local.get 0; jump_unless 3; unreachable; return 0 0"},
		{"i32 ->", "local.get 0; if; return; else; call 6; end", "local.get 0; jump_unless 3; return 0 0; call 6; return 0 0"},
		{"i32 ->", "local.get 0; if; call 6; else; unreachable; end", "local.get 0; jump_unless 4; call 6; jump 5; unreachable; return 0 0"},
		{"i32 ->", "local.get 0; if; br 0; else; br 0; end", "local.get 0; jump_unless 3; jump 4; jump 4; return 0 0"},
		{"i32 ->", "local.get 0; if; br 1; else; br 1; end; call 6", "local.get 0; jump_unless 3; return 0 0; return 0 0; call 6; return 0 0"},
		{"i32 ->", "local.get 0; if; local.get 0; if; end; else; local.get 0; if; else; end; end",
			"local.get 0; jump_unless 5; local.get 0; jump_unless 4; jump 8; local.get 0; jump_unless 8; jump 8; return 0 0"},
		{"i32 -> i64", "local.get 0; if i64; i64.const 1; br 0; else; i64.const 2; br 0; end", "local.get 0; jump_unless 4; i64.const 1; jump 6 1 0; i64.const 2; jump 6 1 0; return 1 0"},
	})
}

// TestFlatDead: where a block is dead, nothing is made until its else or end.
func TestFlatDead(t *testing.T) {
	rest := "nop; drop; block; i32.const 1; if; call 6; else; unreachable; end; loop; br 0; end; i32.const 1; br_if 0; end; i64.add; drop; select; drop; "
	checkFlatRows(t, []flatRow{
		{"->", "br 0; " + rest + "br 0", "return 0 0; return 0 0"},
		{"->", "return; " + rest + "return", "return 0 0; return 0 0"},
		{"->", "unreachable; " + rest + "unreachable", "unreachable; return 0 0"},
		{"i32 ->", "local.get 0; br_table 0; " + rest + "br_table 0 0", "local.get 0; table 2; return 0 0"},
		{"-> i32", "unreachable", "unreachable; return 1 0"},
		{"i32 ->", "block; br 0; " + rest + "end; call 6", "jump 1; call 6; return 0 0"},
		{"i32 ->", "block; unreachable; " + rest + "end; call 6", "unreachable; call 6; return 0 0"},
		{"i32 ->", "loop; return; " + rest + "end; call 6", "return 0 0; call 6; return 0 0"},
		{"i32 ->", "block; local.get 0; br_table 0 1 0; " + rest + "end; call 6", "local.get 0; table 2, 3, 2; call 6; return 0 0"},
		{"i32 ->", "local.get 0; if; unreachable; i32.const 1; if; call 6; else; call 6; end; else; call 6; end", "local.get 0; jump_unless 3; unreachable; call 6; return 0 0"},
		{"i32 ->", "local.get 0; if; call 6; else; return; " + rest + "end; call 6", "local.get 0; jump_unless 4; call 6; jump 5; return 0 0; call 6; return 0 0"},
		{"i32 ->", "local.get 0; if; br 0; if; else; end; else; br 1; if; else; call 6; end; end; call 6", "local.get 0; jump_unless 3; jump 4; return 0 0; call 6; return 0 0"},
		{"i32 -> i32", "block i32; i32.const 1; br 0; block i32; i32.const 2; br 1; end; end", "i32.const 1; jump 2 1 0; return 1 0"},
		{"i32 -> i32", "block i32; unreachable; block; br 0; end; end; i32.const 2; i32.add", "unreachable; i32.const 2; i32.add; return 1 0"},
	})
}

func TestFlatBranch(t *testing.T) {
	checkFlatRows(t, []flatRow{
		{"-> i32", "block i32; i32.const 9; i32.const 5; br 0; end", "i32.const 9; i32.const 5; jump 3 1 1; return 1 0"},
		{"->", "i64.const 1; block i32; i32.const 2; i32.const 3; block; f32.const 0x00000000; i32.const 4; br 1; end; drop; end; drop; drop",
			"i64.const 1; i32.const 2; i32.const 3; f32.const 0; i32.const 4; jump 7 1 3; drop; drop; drop; return 0 0"},
		{"->", "i64.const 1; block; i32.const 2; block i32; i32.const 3; br 1; end; drop; drop; end; drop", "i64.const 1; i32.const 2; i32.const 3; jump 6 0 2; drop; drop; drop; return 0 0"},
		{"i32 ->", "block; local.get 0; br_if 0; call 6; end", "local.get 0; jump_if 3; call 6; return 0 0"},
		{"i32 ->", "block i32; f32.const 0x00000000; i32.const 4; local.get 0; br_if 0; drop; drop; i32.const 6; end; drop",
			"f32.const 0; i32.const 4; local.get 0; jump_if 7 1 1; drop; drop; i32.const 6; drop; return 0 0"},
		{"i32 ->", "local.get 0; if; i64.const 1; local.get 0; br_if 0; drop; end; call 6", "local.get 0; jump_unless 6; i64.const 1; local.get 0; jump_if 6 0 1; drop; call 6; return 0 0"},
		{"i32 -> i64", "i64.const 1; local.get 0; if i64; i64.const 2; br 0; else; i64.const 3; i64.const 4; br 0; end; i64.add",
			"i64.const 1; local.get 0; jump_unless 5; i64.const 2; jump 8 1 0; i64.const 3; i64.const 4; jump 8 1 1; i64.add; return 1 0"},
	})
	checkFlatRows(t, []flatRow{
		{"-> i32", "i32.const 7; br 0", "i32.const 7; return 1 0; return 1 0"},
		{"-> i32", "i64.const 1; i32.const 2; br 0", "i64.const 1; i32.const 2; return 1 1; return 1 0"},
		{"->", "i64.const 1; i32.const 2; br 0", "i64.const 1; i32.const 2; return 0 2; return 0 0"},
		{"-> i32", "i64.const 1; block; i32.const 2; br 1; end; drop; i32.const 3", "i64.const 1; i32.const 2; return 1 1; drop; i32.const 3; return 1 0"},
		{"i32 ->", "local.get 0; br_if 0", "local.get 0; jump_unless 3; return 0 0; return 0 0"},
		{"i32 -> i32", "i64.const 1; i32.const 2; local.get 0; br_if 0; drop; drop; i32.const 5",
			"i64.const 1; i32.const 2; local.get 0; jump_unless 5; return 1 1; drop; drop; i32.const 5; return 1 0"},
		{"i32 -> i32", "block; f64.const 0x0000000000000000; loop; i32.const 8; local.get 0; br_if 2; drop; end; drop; end; i32.const 9",
			"f64.const 0; i32.const 8; local.get 0; jump_unless 5; return 1 1; drop; drop; i32.const 9; return 1 0"},
	})
	checkFlatRows(t, []flatRow{
		{"-> i32", "i32.const 1; i32.const 2; return", "i32.const 1; i32.const 2; return 1 1; return 1 0"},
		{"-> i32", "i64.const 1; block; f32.const 0x00000000; i32.const 2; return; end; drop; i32.const 3", "i64.const 1; f32.const 0; i32.const 2; return 1 2; drop; i32.const 3; return 1 0"},
		{"->", "i64.const 1; loop; f32.const 0x00000000; return; end; drop", "i64.const 1; f32.const 0; return 0 2; drop; return 0 0"},
	})
}

func TestFlatTable(t *testing.T) {
	checkFlatRows(t, []flatRow{
		{"i32 ->", "block; loop; f64.const 0x0000000000000000; local.get 0; i32.const 1; i32.sub; local.tee 0; br_table 0 1 2; end; call 6; end; call 6",
			"f64.const 0; local.get 0; i32.const 1; i32.sub; local.tee 0; table 0 0 1, 7 0 1, 8 0 1; call 6; call 6; return 0 0"},
		{"i32 -> i32", "block i32; f32.const 0x00000000; i32.const 4; local.get 0; br_table 0 1; end; i32.const 10; i32.add",
			"f32.const 0; i32.const 4; local.get 0; table 4 1 1, 6 1 1; i32.const 10; i32.add; return 1 0"},
		{"i32 -> i32", "i32.const 4; local.get 0; br_table 0", "i32.const 4; local.get 0; table 3 1 0; return 1 0"},
		{"i32 ->", "i64.const 1; block; i64.const 2; block; i64.const 3; local.get 0; br_table 2 1 0 1 0 2; end; drop; end; drop",
			"i64.const 1; i64.const 2; i64.const 3; local.get 0; table 7 0 3, 6 0 2, 5 0 1, 6 0 2, 5 0 1, 7 0 3; drop; drop; return 0 0"},
		{"i32 ->", "local.get 0; if; local.get 0; br_table 0 1; else; local.get 0; br_table 1 0; end; call 6",
			"local.get 0; jump_unless 4; local.get 0; table 6, 7; local.get 0; table 7, 6; call 6; return 0 0"},
	})
}

// TestFlatLabels: labels behind several ends, and those of loops.
func TestFlatLabels(t *testing.T) {
	checkFlatRows(t, []flatRow{
		{"i32 ->", "block; block; block; local.get 0; br_table 0 1 2 3; end; nop; end; end; nop; loop; nop; end", "local.get 0; table 2, 2, 2, 2; return 0 0"},
		{"i32 ->", "block; block; nop; local.get 0; br_if 1; local.get 0; br_if 0; nop; end; nop; end; nop; block; nop; call 6; end", "local.get 0; jump_if 4; local.get 0; jump_if 4; call 6; return 0 0"},
		{"i32 ->", "block; loop; block; local.get 0; br_if 0; end; br 1; end; end", "local.get 0; jump_if 2; jump 3; return 0 0"},
		{"->", "call 6; loop; nop; block; nop; global.get 0; i32.const 50; i32.lt_u; if; call 6; br 2; end; end; end",
			"call 6; global.get 0; i32.const 50; i32.lt_u; jump_unless 7; call 6; jump 1; return 0 0"},
		{"->", "loop; loop; nop; loop; call 6; global.get 0; i32.const 50; i32.lt_u; br_if 2; global.get 0; i32.const 60; i32.lt_u; br_if 1; end; end; global.get 0; i32.const 70; i32.lt_u; br_if 0; end",
			"call 6; global.get 0; i32.const 50; i32.lt_u; jump_if 0; global.get 0; i32.const 60; i32.lt_u; jump_if 0; global.get 0; i32.const 70; i32.lt_u; jump_if 0; return 0 0"},
		{"->", "loop i32; i64.const 5; call 6; global.get 0; i32.const 50; i32.lt_u; br_if 0; drop; i32.const 3; end; drop",
			"i64.const 5; call 6; global.get 0; i32.const 50; i32.lt_u; jump_if 0 0 1; drop; i32.const 3; drop; return 0 0"},
		{"i32 ->", "nop; loop; nop; block; br 1; end; end", "jump 0; return 0 0"},
		{"i32 -> i32", "i32.const 1; loop; local.get 0; if; br 0; else; local.get 0; br_if 1; end; end", "i32.const 1; local.get 0; jump_unless 4; jump 6; local.get 0; jump_if 1; return 1 0"},
	})
}

// TestFlatRings has branches out of three blocks of all kinds to each of them.
func TestFlatRings(t *testing.T) {
	t.Parallel()
	for i, outer := range rings() {
		for j, middle := range rings() {
			inner := rings()[(i+3*j)%8]
			for n := range 4 {
				for _, branch := range []string{"br %d", "i32.const -1; br_if %d", "i32.const 0; br_if %d", "i32.const 0; br_table %d %[1]d", "i32.const -1; br_table %d %[1]d"} {
					body := marked(outer, middle, inner, fmt.Sprintf(branch, n))
					if branch == "i32.const 0; br_if %d" {
						body = strings.ReplaceAll(body, "unreachable", "drop; drop")
					}
					got, _ := checkFlat(t, body, stage("i32 -> i32", " 1 i32", body), 4, ends(0), 0)
					if got.Status != impl.Done || len(got.Results) != 1 {
						t.Fatalf("%s: status %d", body, got.Status)
					}
				}
			}
		}
	}
}

// TestFlattenOfNone: what has no flat code.
func TestFlattenOfNone(t *testing.T) {
	s := stage("i32 -> i32", "", "local.get 0")
	for _, addr := range []int64{-1, 0, 1, 2, 3, 9, 10, 1 << 32, 1<<32 + 4, math.MinInt64, math.MaxInt64} {
		if got := impl.Flatten(s, addr); len(got) != 0 {
			t.Errorf("address %d: %+v", addr, got)
		}
	}
	for err, stores := range givenStores(s) {
		for i, given := range stores {
			if got := impl.Flatten(given, 4); (len(got) == 0) != (err != 0) {
				t.Errorf("store %d, Err %d: %+v", i, err, got)
			}
		}
	}
	if got := impl.Flatten(impl.StoreNew(), 4); len(got) != 0 {
		t.Errorf("the host's alone: %+v", got)
	}
	for addr, n := range []int{0, 0, 0, 0, 2, 9, 5, 6, 2} {
		if got := impl.Flatten(s, int64(addr)); len(got) != n {
			t.Errorf("function %d: %+v", addr, got)
		}
	}
}

// TestFlatOfBroken: bodies that are not valid have no flat code, and are not
// run by it.
func TestFlatOfBroken(t *testing.T) {
	for _, body := range []string{"", "nop", "br 1; end", "block; br 2; end; end", "block; end", "i32.const; end", "i32.add; end", "end; end", "if; end; end", "else; end", "unreachable; i32.const; end", "local.get 9; drop; end"} {
		s := stage("->", "", "nop")
		s.Funcs[4].Body = nil
		if body != "" {
			s.Funcs[4].Body = asm(body)
		}
		if got := impl.Flatten(s, 4); len(got) != 0 {
			t.Errorf("%q: %+v", body, got)
		}
		if got := impl.Flatten(s, 6); len(got) != 0 {
			t.Errorf("%q beside it: %+v", body, got)
		}
		if got := impl.RunFlat(s, 6, nil, 10); !same(got, impl.FlatRes{Err: impl.RnStore}) {
			t.Errorf("%q beside it: Err %d", body, got.Err)
		}
	}
}

// TestFlatLength has bodies of which the flat code is as long as can be, and as
// short.
func TestFlatLength(t *testing.T) {
	for _, n := range []int{1, 2, 10, 300} {
		s := stage("i32 ->", "", strings.TrimSuffix(strings.Repeat("local.get 0; br_if 0; ", n), "; "))
		if got := impl.Flatten(s, 4); len(got) != 3*n+1 || len(s.Funcs[4].Body) != 2*n+1 {
			t.Errorf("%d br_if: %d", n, len(got))
		}
		checkFlat(t, n, s, 4, ends(0), 10)
		checkFlat(t, n, s, 4, ends(1), 10)
		s = stage("->", "", strings.Repeat("block; ", n)+strings.Repeat("loop; nop; end; ", n)+strings.Repeat("end; ", n)+"nop")
		if got := impl.Flatten(s, 4); len(got) != 1 {
			t.Errorf("%d blocks: %d", n, len(got))
		}
		s = stage("->", "", strings.Repeat("block; ", n)+fmt.Sprintf("br %d; ", n-1)+strings.Repeat("end; call 6; ", n)+fmt.Sprintf("loop; i32.const 0; br_table %s0; end", strings.Repeat("0 1 ", n)))
		code := impl.Flatten(s, 4)
		if len(code) != n+4 || code[0].T.To != int64(n) || len(code[n+2].L) != 2*n {
			t.Errorf("%d ends: %d instructions", n, len(code))
		}
		checkCode(t, n, codesOf(s), 4)
	}
}
