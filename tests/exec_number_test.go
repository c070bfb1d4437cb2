package tests

import (
	"fmt"
	"slices"
	"strings"
	"testing"

	"loop.example/s00119/impl"
)

// numberStore has one function, of just the type of an instruction, that does
// it with its arguments.
func numberStore(w opWant) impl.Store {
	f := impl.FuncInst{Type: impl.FuncType{Params: w.params, Results: w.results}}
	for i := range w.params {
		f.Body = append(f.Body, impl.Ins{Op: 0x20, A: int64(i)})
	}
	f.Body = append(f.Body, ins(w.op), ins(0x0b))
	return impl.Store{Funcs: append(hostRows(), f), Insts: []impl.Instance{{}}}
}

// someEdges are arguments of a type: every so often one of its edges, and
// those that the tests of traps and signs need.
func someEdges(ty int64, every int) []uint64 {
	words := map[int64][]uint64{0x7f: edgeWords(), 0x7e: edgeWords(), 0x7d: single.edges(), 0x7c: double.edges()}[ty]
	out := map[int64][]uint64{
		0x7f: {0, 1, 1<<32 - 1, 1 << 31, 7},
		0x7e: {0, 1, 1<<64 - 1, 1 << 63, 7},
		0x7d: {0, 1 << 31, 0x3f800000, 0xbfc00000, 0x7fc00001, 0x4f000000},
		0x7c: {0, 1 << 63, 0x3ff0000000000000, 0xbff8000000000000, 0x7ff8000000000001, 0x41e0000000000000},
	}[ty]
	for i := 0; i < len(words); i += every {
		v := words[i]
		if ty == 0x7f || ty == 0x7d {
			v &= 1<<32 - 1
		}
		out = append(out, v)
	}
	return out
}

// pairsOfArgs has all arguments for a list of types.
func pairsOfArgs(types []int64, every int) [][]uint64 {
	out := [][]uint64{nil}
	for _, ty := range types {
		var longer [][]uint64
		for _, head := range out {
			for _, v := range someEdges(ty, every) {
				longer = append(longer, append(slices.Clone(head), v))
			}
		}
		out = longer
	}
	return out
}

// intWant is what an integer operation answers, by big numbers; false if op is
// none of them.
func intWant(op int64, args []uint64) (impl.NumRes, bool) {
	for _, o := range spotsOf(unaryOps()) {
		if o.op == op {
			return wantUnary(o, args[0]), true
		}
	}
	for _, o := range spotsOf(binaryOps()) {
		if o.op == op {
			return wantBinary(o, args[0], args[1]), true
		}
	}
	return impl.NumRes{}, false
}

// TestRunEveryNumber runs 45 to bf, each with ordinary arguments and edges.
func TestRunEveryNumber(t *testing.T) {
	t.Parallel()
	seen := 0
	for _, w := range highWant() {
		seen++
		s := numberStore(w)
		for i, args := range pairsOfArgs(w.params, 5) {
			want, known := intWant(w.op, args)
			if !known {
				want = refNumber(w.op, args)
			}
			state := impl.State{Status: impl.Done, Stack: ends(want.Val)}
			if want.Trap != 0 {
				state = impl.State{Status: impl.Trapped, Trap: want.Trap}
			}
			got := impl.Invoke(s, 4, args, 10)
			if steps := int64(len(w.params)) + 2; !same(got.State, state) || want.Trap == 0 && got.Used != steps || want.Trap != 0 && got.Used != steps-1 {
				t.Fatalf("%s of %#x: Used %d, %+v, want %+v", w.name, args, got.Used, got.State, state)
			}
			if i%97 == 0 {
				checkRun(t, w.name, s, 4, args...)
			}
		}
	}
	if seen != 0xbf-0x45+1 {
		t.Errorf("%d instructions", seen)
	}
}

// TestNumbersByHand has answers that come from nowhere else.
func TestNumbersByHand(t *testing.T) {
	checkRunRows(t, []runRow{
		{"-> i32", "", "i32.const 7; i32.const 9; i32.sub", nil, 0, ends(1<<32 - 2), 4},
		{"-> i64", "", "i64.const 7; i64.const 9; i64.sub", nil, 0, ends(1<<64 - 2), 4},
		{"-> i32", "", "i32.const -7; i32.const 2; i32.div_s", nil, 0, ends(1<<32 - 3), 4},
		{"-> i32", "", "i32.const -7; i32.const 2; i32.rem_s", nil, 0, ends(1<<32 - 1), 4},
		{"-> i32", "", "i32.const 1; i32.const 33; i32.shl", nil, 0, ends(2), 4},
		{"-> i32", "", "i32.const 2; i32.const 3; i32.lt_s", nil, 0, ends(1), 4},
		{"-> i32", "", "f64.const 0x4000000000000000; f64.const 0x4008000000000000; f64.gt", nil, 0, ends(0), 4},
		{"-> f32", "", "f32.const 0x3f800000; f32.const 0x40400000; f32.div", nil, 0, ends(0x3eaaaaab), 4},
		{"-> f64", "", "f64.const 0x4000000000000000; f64.sqrt", nil, 0, ends(0x3ff6a09e667f3bcd), 3},
		{"-> f32", "", "f32.const 0x7fc00001; f32.neg", nil, 0, ends(0xffc00001), 3},
		{"-> f64", "", "i64.const -1; f64.convert_i64_u", nil, 0, ends(0x43f0000000000000), 3},
		{"-> i64", "", "i32.const -1; i64.extend_i32_s", nil, 0, ends(1<<64 - 1), 3},
		{"-> i64", "", "i32.const -1; i64.extend_i32_u", nil, 0, ends(1<<32 - 1), 3},
		{"-> i32", "", "i64.const -4294967295; i32.wrap_i64", nil, 0, ends(1), 3},
		{"-> f32", "", "i32.const -1; f32.reinterpret_i32", nil, 0, ends(1<<32 - 1), 3},
		{"-> i64", "", "f64.const 0xfff8000000000000; i64.reinterpret_f64", nil, 0, ends(0xfff8000000000000), 3},
		{"-> i32", "", "f64.const 0xc08f400000000000; i32.trunc_f64_s", nil, 0, ends(1<<32 - 1000), 3},
	})
}

// TestEveryInstructionIsRun: there is a run with each opcode.
func TestEveryInstructionIsRun(t *testing.T) {
	bodies := map[string]string{
		"unreachable": "unreachable", "nop": "nop", "block": "block; end", "loop": "loop; end", "if": "i32.const 1; if; end",
		"else": "i32.const 1; if; else; end", "end": "nop", "br": "br 0", "br_if": "i32.const 1; br_if 0", "br_table": "i32.const 0; br_table 0",
		"return": "return", "call": "call 6", "call_indirect": "i32.const 2; call_indirect 4", "drop": "i32.const 1; drop",
		"select": "i32.const 1; i32.const 2; i32.const 3; select; drop", "local.get": "local.get 0; drop", "local.set": "i32.const 1; local.set 0",
		"local.tee": "i32.const 1; local.tee 0; drop", "global.get": "global.get 0; drop", "global.set": "i32.const 1; global.set 0",
		"memory.size": "memory.size; drop", "memory.grow": "i32.const 1; memory.grow; drop",
	}
	for _, w := range allOps() {
		body := bodies[w.name]
		switch {
		case body != "":
		case w.form >= 7:
			zeros := map[int64]string{7: "0", 8: "0", 9: "0x00000000", 10: "0x0000000000000000"}
			body = w.name + " " + zeros[w.form] + "; drop"
		default:
			body = withOperands(w)
		}
		s := stage("->", " 1 i32", body)
		if !slices.ContainsFunc(s.Funcs[4].Body, func(x impl.Ins) bool { return x.Op == w.op }) {
			t.Fatalf("%s does not stand in %s", w.name, body)
		}
		got := checkRun(t, w.name, s, 4)
		if wanted := map[bool]int64{true: impl.Trapped, false: impl.Done}[w.op == 0]; got.State.Status != wanted {
			t.Errorf("%s: %+v", body, got.State)
		}
	}
}

// withOperands gives an instruction of OpType what it takes, and drops what it
// gives.
func withOperands(w opWant) string {
	consts := map[int64]string{0x7f: "i32.const 8", 0x7e: "i64.const 9", 0x7d: "f32.const 0x3fc00000", 0x7c: "f64.const 0x4004000000000000"}
	var parts []string
	for _, ty := range w.params {
		parts = append(parts, consts[ty])
	}
	if w.form == 5 {
		parts = append(parts, fmt.Sprintf("%s 0 4", w.name))
	} else {
		parts = append(parts, w.name)
	}
	return strings.Join(append(parts, slices.Repeat([]string{"drop"}, len(w.results))...), "; ")
}
