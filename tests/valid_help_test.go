package tests

import (
	"strconv"
	"strings"
	"testing"

	"loop.example/s00119/impl"
)

// opsByName has the document's opcodes.
var opsByName = func() map[string]int64 {
	out := map[string]int64{}
	for _, w := range allOps() {
		out[w.name] = w.op
	}
	return out
}()

// asm reads instructions, with a semicolon between: the name, then a block
// type, an index, the labels of a br_table, A and B of a load or store, or V.
// What is left out is None or 0.
func asm(text string) []impl.Ins {
	var out []impl.Ins
	for _, line := range strings.Split(text, ";") {
		words := strings.Fields(line)
		op, is := opsByName[words[0]]
		if !is {
			panic("no instruction: " + line)
		}
		x := ins(op)
		var numbers []int64
		for _, word := range words[1:] {
			n, err := strconv.ParseInt(word, 0, 64)
			if ty := typeWords()[word]; ty != 0 {
				n, err = ty, nil
			}
			if err != nil {
				panic("no number: " + line)
			}
			numbers = append(numbers, n)
		}
		out = append(out, withNumbers(x, numbers))
	}
	return out
}

func withNumbers(x impl.Ins, numbers []int64) impl.Ins {
	last := len(numbers) - 1
	if last < 0 {
		return x
	}
	switch impl.OpForm(x.Op) {
	case 3:
		x.L, x.A = numbers[:last], numbers[last]
	case 5:
		x.A, x.B = numbers[0], numbers[last]*int64(last)
	case 7, 8, 9, 10:
		x.V = uint64(numbers[0])
	default:
		x.A = numbers[0]
	}
	return x
}

// funcType reads "i32 i64 -> f32".
func funcType(text string) impl.FuncType {
	takes, gives, _ := strings.Cut(text, "->")
	read := func(words string) []int64 {
		var out []int64
		for _, word := range strings.Fields(words) {
			out = append(out, typeWords()[word])
		}
		return out
	}
	return impl.FuncType{Params: read(takes), Results: read(gives)}
}

// constOps has for each letter the instruction that gives a value of its type.
func constOps() map[string]string {
	return map[string]string{"i": "i32.const", "I": "i64.const", "f": "f32.const", "F": "f64.const"}
}

// consts has a constant for each letter.
func consts(types string) []impl.Ins {
	var out []impl.Ins
	for _, c := range types {
		out = append(out, asm(constOps()[string(c)])...)
	}
	return out
}

// bodyModule is a module whose second own function has this type and body, and
// locals f32, f32, f64 behind its parameters. It has two functions ahead,
// imported i64 -> f32 and own i32 i64 -> f64, types of the same (1 and 2), a
// table, a memory, and globals i32, i64, f32 and f64, of which the second and
// the last are Mut, and the first is imported.
func bodyModule(ty impl.FuncType, body []impl.Ins) impl.Module {
	global := func(ty int64, mut bool, op int64) impl.Global {
		return impl.Global{Type: impl.GlobalType{Type: ty, Mut: mut}, Init: insList(op, 0x0b)}
	}
	return impl.Module{
		Types: []impl.FuncType{ty, funcType("i64 -> f32"), funcType("i32 i64 -> f64")},
		Imports: []impl.Import{
			{Module: "a", Name: "f", Type: 1},
			{Module: "a", Name: "g", Kind: 3, Global: impl.GlobalType{Type: 0x7f}},
		},
		Funcs:   []int64{2, 0},
		Tables:  []impl.Limits{{}},
		Mems:    []impl.Limits{{}},
		Globals: []impl.Global{global(0x7e, true, 0x42), global(0x7d, false, 0x43), global(0x7c, true, 0x44)},
		Codes: []impl.Code{
			{Body: asm("f64.const; end")},
			{Locals: []impl.Group{{N: 2, Type: 0x7d}, {N: 0, Type: 0x7f}, {N: 1, Type: 0x7c}}, Body: body},
		},
	}
}

// bodyRow has what is wrong with a body: Err and Pos.
type bodyRow struct {
	ty   string
	body string
	err  int64
	pos  int64
}

func atBody(err, pos int64) impl.ValRes {
	if err == 0 {
		return impl.ValRes{}
	}
	return impl.ValRes{Err: err, Section: 10, Index: 1, Pos: pos}
}

func checkModule(t *testing.T, what any, m impl.Module, want impl.ValRes) {
	t.Helper()
	if got := impl.Validate(m); got != want {
		t.Errorf("%v: %+v, want %+v", what, got, want)
	}
	if ref := wantValid(m); ref != want {
		t.Errorf("%v: the other checker of the tests has %+v, want %+v", what, ref, want)
	}
}

func checkBody(t *testing.T, ty string, body []impl.Ins, err, pos int64) {
	t.Helper()
	checkModule(t, body, bodyModule(funcType(ty), body), atBody(err, pos))
}

func checkBodies(t *testing.T, rows []bodyRow) {
	t.Helper()
	for _, r := range rows {
		checkModule(t, r, bodyModule(funcType(r.ty), asm(r.body)), atBody(r.err, r.pos))
	}
}
