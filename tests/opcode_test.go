package tests

import (
	"math"
	"slices"
	"strings"
	"testing"

	"loop.example/s00119/impl"
)

// opWant is what the document says of an opcode.
type opWant struct {
	op      int64
	name    string
	form    int64
	params  []int64
	results []int64
}

// typeWords has the value types by the words that begin their instructions.
func typeWords() map[string]int64 {
	return map[string]int64{"i32": 0x7f, "i64": 0x7e, "f32": 0x7d, "f64": 0x7c}
}

// typeBefore is the type before the dot of a name.
func typeBefore(name string) int64 {
	word, _, _ := strings.Cut(name, ".")
	return typeWords()[word]
}

// formRows has the names of chapter 4's table below 45, row by row: the form,
// then runs of names by their first opcode.
func formRows() map[int64]map[int64]string {
	return map[int64]map[int64]string{
		0: {0x00: "unreachable nop", 0x05: "else", 0x0b: "end", 0x0f: "return", 0x1a: "drop select"},
		1: {0x02: "block loop if"},
		2: {0x0c: "br br_if", 0x10: "call", 0x20: "local.get local.set local.tee global.get global.set"},
		3: {0x0e: "br_table"},
		4: {0x11: "call_indirect"},
		5: {0x28: "i32.load i64.load f32.load f64.load i32.load8_s i32.load8_u i32.load16_s i32.load16_u" +
			" i64.load8_s i64.load8_u i64.load16_s i64.load16_u i64.load32_s i64.load32_u" +
			" i32.store i64.store f32.store f64.store i32.store8 i32.store16 i64.store8 i64.store16 i64.store32"},
		6:  {0x3f: "memory.size memory.grow"},
		7:  {0x41: "i32.const"},
		8:  {0x42: "i64.const"},
		9:  {0x43: "f32.const"},
		10: {0x44: "f64.const"},
	}
}

// lowWant has the opcodes below 45.
func lowWant() []opWant {
	var out []opWant
	for form, runs := range formRows() {
		for first, names := range runs {
			for i, name := range strings.Fields(names) {
				w := opWant{op: first + int64(i), name: name, form: form}
				switch {
				case strings.Contains(name, ".load"):
					w.params, w.results = []int64{0x7f}, []int64{typeBefore(name)}
				case strings.Contains(name, ".store"):
					w.params = []int64{0x7f, typeBefore(name)}
				case strings.Contains(name, ".const"):
					w.results = []int64{typeBefore(name)}
				case name == "memory.size":
					w.results = []int64{0x7f}
				case name == "memory.grow":
					w.params, w.results = []int64{0x7f}, []int64{0x7f}
				}
				out = append(out, w)
			}
		}
	}
	return out
}

// numberRun has instructions of one type that follow one another: how many
// numbers they take, and whether they give a truth.
type numberRun struct {
	first int64
	kind  string
	takes int
	truth bool
	names string
}

func numberRuns() []numberRun {
	compared := "eq ne lt_s lt_u gt_s gt_u le_s le_u ge_s ge_u"
	computed := "add sub mul div_s div_u rem_s rem_u and or xor shl shr_s shr_u rotl rotr"
	return []numberRun{
		{0x45, "i32", 1, true, "eqz"}, {0x46, "i32", 2, true, compared},
		{0x50, "i64", 1, true, "eqz"}, {0x51, "i64", 2, true, compared},
		{0x5b, "f32", 2, true, "eq ne lt gt le ge"}, {0x61, "f64", 2, true, "eq ne lt gt le ge"},
		{0x67, "i32", 1, false, "clz ctz popcnt"}, {0x6a, "i32", 2, false, computed},
		{0x79, "i64", 1, false, "clz ctz popcnt"}, {0x7c, "i64", 2, false, computed},
		{0x8b, "f32", 1, false, "abs neg ceil floor trunc nearest sqrt"},
		{0x92, "f32", 2, false, "add sub mul div min max copysign"},
		{0x99, "f64", 1, false, "abs neg ceil floor trunc nearest sqrt"},
		{0xa0, "f64", 2, false, "add sub mul div min max copysign"},
	}
}

// turnNames has the names of a7..bf, in order.
func turnNames() []string {
	return strings.Fields("i32.wrap_i64 i32.trunc_f32_s i32.trunc_f32_u i32.trunc_f64_s i32.trunc_f64_u" +
		" i64.extend_i32_s i64.extend_i32_u i64.trunc_f32_s i64.trunc_f32_u i64.trunc_f64_s i64.trunc_f64_u" +
		" f32.convert_i32_s f32.convert_i32_u f32.convert_i64_s f32.convert_i64_u f32.demote_f64" +
		" f64.convert_i32_s f64.convert_i32_u f64.convert_i64_s f64.convert_i64_u f64.promote_f32" +
		" i32.reinterpret_f32 i64.reinterpret_f64 f32.reinterpret_i32 f64.reinterpret_i64")
}

// highWant has the opcodes 45..bf.
func highWant() []opWant {
	var out []opWant
	for _, r := range numberRuns() {
		kind := typeWords()[r.kind]
		for i, name := range strings.Fields(r.names) {
			w := opWant{op: r.first + int64(i), name: r.kind + "." + name, results: []int64{kind}}
			w.params = slices.Repeat([]int64{kind}, r.takes)
			if r.truth {
				w.results[0] = 0x7f
			}
			out = append(out, w)
		}
	}
	for i, name := range turnNames() {
		from := typeWords()[strings.Split(name, "_")[1]]
		out = append(out, opWant{op: 0xa7 + int64(i), name: name, params: []int64{from}, results: []int64{typeBefore(name)}})
	}
	return out
}

func allOps() []opWant { return append(lowWant(), highWant()...) }

// noOps has numbers that are no opcodes: all near the opcodes, and those that
// would be one if they were cut.
func noOps() []int64 {
	is := map[int64]bool{}
	for _, w := range allOps() {
		is[w.op] = true
	}
	out := []int64{math.MinInt64, math.MaxInt64}
	for n := int64(-600); n < 1200; n++ {
		if !is[n] {
			out = append(out, n)
		}
	}
	for _, w := range allOps() {
		for _, away := range []int64{1 << 8, 1 << 16, 1 << 31, 1 << 32, 1 << 62, math.MinInt64} {
			out = append(out, w.op|away)
		}
		out = append(out, -w.op-256, w.op-1<<32)
	}
	return out
}

func TestOpsOfTheDocument(t *testing.T) {
	seen := map[int64]bool{}
	for _, w := range allOps() {
		if seen[w.op] {
			t.Fatalf("%x stands twice", w.op)
		}
		seen[w.op] = true
		if got := impl.OpForm(w.op); got != w.form {
			t.Errorf("form of %x %s: %d, not %d", w.op, w.name, got, w.form)
		}
		if got := impl.OpName(w.op); got != w.name {
			t.Errorf("name of %x: %q, not %q", w.op, got, w.name)
		}
		if got := impl.OpCode(w.name); got != w.op {
			t.Errorf("code of %s: %x, not %x", w.name, got, w.op)
		}
		got := impl.OpType(w.op)
		if !slices.Equal(got.Params, w.params) || !slices.Equal(got.Results, w.results) {
			t.Errorf("type of %x %s: %x, not %x -> %x", w.op, w.name, got, w.params, w.results)
		}
	}
	if len(seen) != 172 {
		t.Errorf("%d opcodes", len(seen))
	}
}

func TestOpsThatAreNone(t *testing.T) {
	for _, op := range noOps() {
		if got := impl.OpForm(op); got != -1 {
			t.Errorf("form of %x: %d", op, got)
		}
		if got := impl.OpName(op); got != "" {
			t.Errorf("name of %x: %q", op, got)
		}
		if got := impl.OpType(op); len(got.Params) != 0 || len(got.Results) != 0 {
			t.Errorf("type of %x: %x", op, got)
		}
	}
}

func TestNamesThatAreNone(t *testing.T) {
	is := map[string]bool{}
	for _, w := range allOps() {
		is[w.name] = true
	}
	names := strings.Split(",.,i32,i32.,.add,add,load,local,memory,i32.abs,f32.eqz,f32.rem_s,i64.wrap_i32,"+
		"i64.extend_i64_s,f64.demote_f32,i32.load32_s,f32.load8_u,f64.store8,i32.wrap/i64,get_local,tee_local,"+
		"current_memory,memory.fill,i32.extend8_s,i32.trunc_sat_f32_s,ref.null,try,nop nop,unreachable nop,NOP,-1,0", ",")
	for name := range is {
		names = append(names, name[:len(name)-1], name[1:], name+"s", name+" ", " "+name, name+"\n", name+"\x00",
			strings.ToUpper(name), strings.ReplaceAll(name, ".", "/"), strings.ReplaceAll(name, "_", "-"))
	}
	for _, name := range names {
		if got := impl.OpCode(name); !is[name] && got != -1 {
			t.Errorf("code of %q: %x", name, got)
		}
	}
}

// The types agree with the operations of chapters 2 and 3: what takes one
// number is done by one of those for one, what takes two by one of those for
// two.
func TestTypesAgreeWithOperations(t *testing.T) {
	for op := int64(-1); op < 300; op++ {
		one := impl.Int1(op, 0).Ok || impl.Float1(op, 0).Ok || impl.Convert(op, 0).Ok
		two := impl.Int2(op, 0, 1).Ok || impl.Float2(op, 0, 0).Ok
		number := op >= 0x45 && op <= 0xbf
		if takes := len(impl.OpType(op).Params); number && (one != (takes == 1) || two != (takes == 2)) {
			t.Errorf("%x takes %d", op, takes)
		}
		if !number && (one || two) {
			t.Errorf("%x is done", op)
		}
	}
}

func TestOpTypeIsNewMemory(t *testing.T) {
	for _, w := range allOps() {
		got := impl.OpType(w.op)
		params := append(got.Params, -1, -1, -1)
		for i := range params {
			params[i] = -1
		}
		if !slices.Equal(got.Results, w.results) {
			t.Errorf("type of %x: its lists share memory", w.op)
		}
		results := append(got.Results, -1)
		results[0] = -1
		again := impl.OpType(w.op)
		if !slices.Equal(again.Params, w.params) || !slices.Equal(again.Results, w.results) {
			t.Errorf("type of %x: %x after the first answer was written to", w.op, again)
		}
	}
}
