package tests

import (
	"math"
	"reflect"
	"slices"
	"strings"
	"testing"

	"loop.example/s00119/impl"
)

// stackWords reads what is before each instruction: letters, "-" for an empty
// stack, "dead".
func stackWords(text string) []impl.StackRes {
	var out []impl.StackRes
	for _, word := range strings.Fields(text) {
		switch word {
		case "dead":
			out = append(out, impl.StackRes{Ok: true, Dead: true})
		case "-":
			out = append(out, impl.StackRes{Ok: true})
		default:
			out = append(out, impl.StackRes{Ok: true, Types: typesOf(word)})
		}
	}
	return out
}

// checkStacks holds StackAt at every instruction of a code, and at numbers
// that are none, against what is wanted.
func checkStacks(t *testing.T, what any, m impl.Module, code int64, wants []impl.StackRes) {
	t.Helper()
	size := int64(len(m.Codes[code].Body))
	if int64(len(wants)) != size {
		t.Fatalf("%v: %d wants for %d instructions", what, len(wants), size)
	}
	for pos, want := range wants {
		if got := impl.StackAt(m, code, int64(pos)); !same(got, want) {
			t.Errorf("%v: before %d: %+v, want %+v", what, pos, got, want)
		}
	}
	for _, pos := range []int64{-1, size, size + 1, math.MinInt64, math.MaxInt64, 1 << 32, -1 << 32} {
		if got := impl.StackAt(m, code, pos); !same(got, impl.StackRes{}) {
			t.Errorf("%v: before %d: %+v", what, pos, got)
		}
	}
}

func TestStacksByHand(t *testing.T) {
	rows := []struct {
		ty     string
		body   string
		stacks string
	}{
		{"", "end", "-"},
		{"i32 i64 ->", "end", "-"},
		{"-> i32", "i32.const; end", "- i"},
		{"-> f64", "i32.const; i64.const; f32.const; f64.const; local.set 2; drop; drop; drop; f64.const; end", "- i iI iIf iIfF iIf iI i - F"},
		{"-> i32", "i32.const; block i32; i64.const; unreachable; i32.const; end; i32.add; end", "- i i iI dead dead ii i"},
		{"", "block; end; end", "- - -"},
		{"", "i64.const; block; f32.const; drop; end; drop; end", "- I I If I I -"},
		{"", "i64.const; i32.const; if; nop; else; nop; end; drop; end", "- I Ii I I I I I -"},
		{"-> i32", "i32.const; if i32; i32.const; else; i32.const; end; end", "- i - i - i i"},
		{"-> i32", "i32.const; if i32; unreachable; nop; else; i32.const; end; end", "- i - dead dead - i i"},
		{"-> i32", "i32.const; if i32; i32.const; else; unreachable; end; end", "- i - i - dead i"},
		{"", "return; nop; end", "- dead dead"},
		{"", "br 0; block; nop; end; end", "- dead dead dead dead"},
		{"", "br 0; block; br 0; end; i32.const; drop; end", "- dead dead dead dead dead dead"},
		{"", "i32.const; br_table 0; drop; end", "- i dead dead"},
		{"", "block; br 0; nop; end; nop; end", "- - dead dead - -"},
		{"", "block; br 1; loop; nop; end; nop; end; nop; end", "- - dead dead dead dead dead - -"},
		{"", "block; unreachable; if; nop; else; nop; end; end; end", "- - dead dead dead dead dead dead -"},
		{"-> i64", "i64.const; loop; i32.const; br_if 0; end; end", "- I I Ii I I"},
		{"-> i64", "i64.const; i32.const; br_if 0; end", "- I Ii I"},
		{"-> i64", "f64.const; block i64; i64.const; br 0; drop; end; i32.const; br_table 0; end", "- F F FI dead dead FI FIi dead"},
		{"", "unreachable; select; select; drop; end", "- dead dead dead dead"},
		{"", "block i32; unreachable; select; end; drop; end", "- - dead dead i -"},
		{"f64 f64 ->", "i32.const; i64.const; call 1; f64.const; f64.add; local.set 1; end", "- i iI F FF F -"},
		{"", "f32.const; i64.const; i32.const; call_indirect 1; i32.const; select; drop; end", "- f fI fIi ff ffi f -"},
	}
	for _, r := range rows {
		m := bodyModule(funcType(r.ty), asm(r.body))
		checkModule(t, r, m, impl.ValRes{})
		checkStacks(t, r, m, 1, stackWords(r.stacks))
	}
}

func TestStacksOfOtherCodes(t *testing.T) {
	m := soundModule()
	checkStacks(t, "first", m, 0, stackWords("- -"))
	checkStacks(t, "second", m, 1, stackWords("- i - I f -"))
	checkStacks(t, "last", m, 2, stackWords("- F -"))
	for _, code := range []int64{-1, 3, 4, math.MinInt64, math.MaxInt64, 1 << 32, -3} {
		for _, pos := range []int64{-1, 0, 1, 2} {
			if got := impl.StackAt(m, code, pos); !same(got, impl.StackRes{}) {
				t.Errorf("code %d, %d: %+v", code, pos, got)
			}
		}
	}
	if got := impl.StackAt(impl.Module{}, 0, 0); !same(got, impl.StackRes{}) {
		t.Errorf("the empty module: %+v", got)
	}
}

// TestStacksOfModulesThatAreWrong asks a body that is right by itself, in a
// module that is not valid.
func TestStacksOfModulesThatAreWrong(t *testing.T) {
	for _, f := range slices.Concat(importFlaws(), ownFlaws(), listFlaws(), elementFlaws(), missingFlaws()) {
		m := soundModule()
		f.do(&m)
		for code := range int64(3) {
			if got := impl.StackAt(m, code, 0); !same(got, impl.StackRes{}) {
				t.Errorf("%s: code %d: %+v", f.name, code, got)
			}
		}
	}
}

func TestStacksAreNewMemory(t *testing.T) {
	m := bodyModule(funcType("-> i32"), asm("i32.const; block i32; i32.const; i32.const; br_if 0; end; i32.add; end"))
	m.Types[0].Results = append(make([]int64, 0, 8), 0x7f)
	twin := bodyModule(funcType("-> i32"), asm("i32.const; block i32; i32.const; i32.const; br_if 0; end; i32.add; end"))
	for pos := range int64(8) {
		first := impl.StackAt(m, 1, pos)
		again := impl.StackAt(m, 1, pos)
		for i := range first.Types {
			first.Types[i] = 0
		}
		first.Types = append(first.Types, 1, 2, 3)
		if slices.Contains(again.Types, 0) {
			t.Errorf("before %d: two answers share memory", pos)
		}
		if !same(m, twin) {
			t.Fatalf("before %d: the argument was written to", pos)
		}
	}
	if room := m.Types[0].Results[:8]; !reflect.DeepEqual(room[1:], make([]int64, 7)) {
		t.Errorf("behind a list of the argument: %v", room)
	}
}

// TestRoomBehindListsIsNotWritten has arguments whose lists have room behind
// them, which belongs to whoever made them.
func TestRoomBehindListsIsNotWritten(t *testing.T) {
	roomy := func(types ...int64) []int64 { return append(make([]int64, 0, 16), types...) }
	m := bodyModule(impl.FuncType{}, asm("i64.const; i32.const; call_indirect 1; drop; block i32; i32.const; i32.const; br_if 0; end; drop; i64.const; call 0; drop; end"))
	m.Types[1].Params, m.Types[1].Results = roomy(0x7e), roomy(0x7d)
	if got := impl.Validate(m); got != (impl.ValRes{}) {
		t.Fatalf("%+v", got)
	}
	impl.StackAt(m, 1, 6)
	for _, list := range [][]int64{m.Types[1].Params, m.Types[1].Results} {
		if !reflect.DeepEqual(list[:16][1:], make([]int64, 15)) {
			t.Errorf("%v", list[:16])
		}
	}
}
