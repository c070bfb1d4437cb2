package tests

import (
	"math"
	"slices"
	"strings"
	"testing"

	"loop.example/s00119/impl"
)

// plainIns is an instruction that stays in its block and takes known types, with
// what it takes and gives in a body of bodyModule.
type plainIns struct {
	x     impl.Ins
	takes string
	gives string
}

func plainInss() []plainIns {
	var out []plainIns
	add := func(text, takes, gives string) { out = append(out, plainIns{asm(text)[0], takes, gives}) }
	for _, w := range allOps() {
		if len(w.params)+len(w.results) > 0 || w.name == "nop" {
			add(w.name, letters(w.params), letters(w.results))
		}
	}
	add("br_if 0", "i", "")
	add("call 0", "I", "f")
	add("call 1", "iI", "F")
	add("call 2", "", "")
	add("call_indirect 0", "i", "")
	add("call_indirect 1", "Ii", "f")
	add("call_indirect 2", "iIi", "F")
	for i, c := range []string{"f", "f", "F"} {
		number := string(rune('0' + i))
		add("local.get "+number, "", c)
		add("local.set "+number, c, "")
		add("local.tee "+number, c, c)
	}
	for i, c := range []string{"i", "I", "f", "F"} {
		add("global.get "+string(rune('0'+i)), "", c)
	}
	add("global.set 1", "I", "")
	add("global.set 3", "F", "")
	return out
}

// bodyOf has constants of these types, x, a drop for each value that it gives,
// and an end.
func bodyOf(types string, x impl.Ins, gives string) []impl.Ins {
	return slices.Concat(consts(types), []impl.Ins{x}, slices.Repeat(asm("drop"), len(gives)), asm("end"))
}

// others has types with one letter changed, for every place and letter.
func others(types string) []string {
	var out []string
	for i := range len(types) {
		for _, c := range []string{"i", "I", "f", "F"} {
			if c != types[i:i+1] {
				out = append(out, types[:i]+c+types[i+1:])
			}
		}
	}
	return out
}

func TestEveryOpcodeInABody(t *testing.T) {
	seen := map[int64]bool{}
	for _, p := range plainInss() {
		seen[p.x.Op] = true
		at := int64(len(p.takes))
		checkBody(t, "", bodyOf(p.takes, p.x, p.gives), 0, 0)
		checkBody(t, "", bodyOf("I"+p.takes, p.x, p.gives+"x"), 0, 0)
		for n := range p.takes {
			checkBody(t, "", bodyOf(p.takes[n+1:], p.x, p.gives), impl.VaType, at-int64(n)-1)
		}
		for _, types := range others(p.takes) {
			checkBody(t, "", bodyOf(types, p.x, p.gives), impl.VaType, at)
		}
		checkBody(t, "", bodyOf(p.takes, p.x, p.gives+"x"), impl.VaType, at+1+int64(len(p.gives)))
		if p.gives != "" {
			checkBody(t, "", bodyOf(p.takes, p.x, p.gives[1:]), impl.VaType, at+int64(len(p.gives)))
		}
	}
	for _, text := range strings.Fields("unreachable block loop if else end br br_table return drop select") {
		seen[impl.OpCode(text)] = true
	}
	for _, w := range allOps() {
		if !seen[w.op] {
			t.Errorf("%s is not tried", w.name)
		}
	}
}

func TestWhatOpcodesGive(t *testing.T) {
	for _, p := range plainInss() {
		if p.x.Op == 0x0d {
			continue // what it gives hangs on the function's type
		}
		body := slices.Concat(consts(p.takes), []impl.Ins{p.x}, asm("end"))
		for _, c := range []string{"i", "I", "f", "F"} {
			err := int64(0)
			if p.gives != c {
				err = impl.VaType
			}
			m := bodyModule(impl.FuncType{Results: typesOf(c)}, body)
			if p.x.Op == 0x10 && p.x.A == 2 || p.x.Op == 0x11 && p.x.A == 0 {
				err = 0 // these are of the function's own type
			}
			checkModule(t, body, m, atBody(err, int64(len(body)-1)))
		}
	}
}

func TestBodiesByHand(t *testing.T) {
	checkBodies(t, []bodyRow{
		{"", "end", 0, 0},
		{"-> i32", "end", impl.VaType, 0},
		{"-> i32", "i32.const; end", 0, 0},
		{"-> i32", "i64.const; end", impl.VaType, 1},
		{"", "i32.const; end", impl.VaType, 1},
		{"-> i32", "i32.const; i32.const; end", impl.VaType, 2},
		{"-> i32", "i64.const; i32.const; end", impl.VaType, 2},
		{"i32 -> i32", "local.get 0; end", 0, 0},
		{"i32 -> i32", "end", impl.VaType, 0},
		{"", "drop; end", impl.VaType, 0},
		{"", "f32.const; drop; end", 0, 0},
		{"", "f32.const; drop; drop; end", impl.VaType, 2},
		{"", "nop; nop; end", 0, 0},
		{"", "block; i32.const; end; end", impl.VaType, 2},
		{"", "loop; i32.const; end; end", impl.VaType, 2},
		{"", "i32.const; if; i32.const; end; end", impl.VaType, 3},
		{"", "block i32; end; drop; end", impl.VaType, 1},
		{"", "block i32; i64.const; end; drop; end", impl.VaType, 2},
		{"", "block i32; i32.const; end; drop; end", 0, 0},
		{"", "block i32; i32.const; end; end", impl.VaType, 3},
		{"-> f64", "loop f64; f64.const; end; end", 0, 0},
		{"-> f64", "loop f64; f32.const; end; end", impl.VaType, 2},
		{"-> i32", "i32.const; block; end; end", 0, 0},
		{"-> i32", "i32.const; block; drop; end; i32.const; end", impl.VaType, 2},
		{"-> i32", "i32.const; block i32; end; end", impl.VaType, 2},
		{"-> i32", "i32.const; block; i32.eqz; drop; end; end", impl.VaType, 2},
		{"-> i32", "i32.const; block; i32.const; i32.add; drop; end; end", impl.VaType, 3},
		{"-> i32", "i32.const; block i32; i32.const; end; i32.add; end", 0, 0},
	})
}

func TestSelect(t *testing.T) {
	for _, a := range []string{"i", "I", "f", "F"} {
		for _, b := range []string{"i", "I", "f", "F"} {
			for _, c := range []string{"i", "I", "f", "F"} {
				err := int64(0)
				if a != b || c != "i" {
					err = impl.VaType
				}
				checkBody(t, "", bodyOf(a+b+c, asm("select")[0], "x"), err, 3)
				m := bodyModule(impl.FuncType{Results: typesOf(a)}, bodyOf(a+b+c, asm("select")[0], ""))
				checkModule(t, a+b+c, m, atBody(err, 3))
			}
		}
	}
	checkBodies(t, []bodyRow{
		{"", "select; drop; end", impl.VaType, 0},
		{"", "i32.const; select; drop; end", impl.VaType, 1},
		{"", "i32.const; i32.const; select; drop; end", impl.VaType, 2},
		{"-> i32", "i64.const; i64.const; i32.const; select; end", impl.VaType, 4},
		{"", "i32.const; block; i32.const; i32.const; select; drop; end; drop; end", impl.VaType, 4},
	})
}

func TestOrderAtOneInstruction(t *testing.T) {
	rows := []struct {
		x     string
		bare  int64 // where there is no memory and no table
		whole int64
	}{
		{"i32.load 3 0", impl.VaIndex, impl.VaAlign},
		{"i32.load 2 0", impl.VaIndex, impl.VaType},
		{"i64.store 4 0", impl.VaIndex, impl.VaAlign},
		{"i64.store 3 0", impl.VaIndex, impl.VaType},
		{"memory.grow", impl.VaIndex, impl.VaType},
		{"memory.size", impl.VaIndex, 0},
		{"call_indirect 2", impl.VaIndex, impl.VaType},
		{"call_indirect 3", impl.VaIndex, impl.VaIndex},
		{"global.set 0", impl.VaMut, impl.VaMut},
		{"global.set 1", impl.VaType, impl.VaType},
		{"global.set 2", impl.VaMut, impl.VaMut},
		{"global.set 4", impl.VaIndex, impl.VaIndex},
		{"local.set 2", impl.VaType, impl.VaType},
		{"local.set 3", impl.VaIndex, impl.VaIndex},
		{"call 1", impl.VaType, impl.VaType},
		{"call 3", impl.VaIndex, impl.VaIndex},
		{"br_if 0", impl.VaType, impl.VaType},
		{"br_if 1", impl.VaIndex, impl.VaIndex},
		{"br_table 0 0 0", impl.VaType, impl.VaType},
		{"br_table 0 0 1", impl.VaIndex, impl.VaIndex},
		{"br_table 1 0 0", impl.VaIndex, impl.VaIndex},
	}
	for _, r := range rows {
		m := bodyModule(impl.FuncType{}, asm(r.x+"; unreachable; end"))
		checkModule(t, r.x, m, atBody(r.whole, 0))
		m.Mems, m.Tables = nil, nil
		checkModule(t, r.x+" without a memory and a table", m, atBody(r.bare, 0))
		if r.bare == impl.VaType {
			r.bare = 0
		}
		m.Codes[1].Body = asm("unreachable; " + r.x + "; unreachable; end")
		checkModule(t, r.x+" in dead code, without a memory and a table", m, atBody(r.bare, 1))
	}
}

func TestAlignments(t *testing.T) {
	for _, w := range allOps() {
		if w.form != 5 {
			continue
		}
		least := map[int64]int64{1: 0, 2: 1, 4: 2, 8: 3}[widthOf(w.name)]
		for _, a := range []int64{0, 1, 2, 3, 4, 5, 31, 32, 33, 62, 63, 64, 65, 127, 128, 1 << 31, math.MaxUint32} {
			x := impl.Ins{Op: w.op, A: a, B: math.MaxUint32}
			err := int64(0)
			if a > least {
				err = impl.VaAlign
			}
			checkBody(t, "", bodyOf(letters(w.params), x, letters(w.results)), err, int64(len(w.params)))
			dead := slices.Concat(asm("unreachable"), []impl.Ins{x}, slices.Repeat(asm("drop"), len(w.results)), asm("end"))
			checkBody(t, "", dead, err, 1)
		}
	}
	names := map[string]int64{
		"i32.load8_s": 0, "i64.load8_u": 0, "i64.store8": 0, "i32.load16_u": 1, "i64.store16": 1, "i32.load": 2, "f32.store": 2,
		"i64.load32_s": 2, "i64.store32": 2, "i64.load": 3, "f64.load": 3, "f64.store": 3,
	}
	for name, most := range names {
		for a := range int64(5) {
			err := int64(0)
			if a > most {
				err = impl.VaAlign
			}
			body := []impl.Ins{ins(0x00), {Op: impl.OpCode(name), A: a}, ins(0x00), ins(0x0b)}
			checkBody(t, "", body, err, 1)
		}
	}
}

func TestLocals(t *testing.T) {
	rows := []struct {
		params []int64
		groups []impl.Group
		types  map[int64]string // "" where there is none
	}{
		{nil, nil, map[int64]string{0: "", 1: "", math.MaxUint32: ""}},
		{[]int64{0x7f}, nil, map[int64]string{0: "i", 1: ""}},
		{[]int64{0x7f, 0x7c}, nil, map[int64]string{0: "i", 1: "F", 2: ""}},
		{nil, []impl.Group{{N: 1, Type: 0x7d}}, map[int64]string{0: "f", 1: ""}},
		{nil, []impl.Group{{N: 0, Type: 0x7d}}, map[int64]string{0: "", 1: ""}},
		{[]int64{0x7e}, []impl.Group{{N: 0, Type: 0x7d}, {N: 2, Type: 0x7c}, {N: 0, Type: 0x7d}, {N: 1, Type: 0x7f}},
			map[int64]string{0: "I", 1: "F", 2: "F", 3: "i", 4: ""}},
		{[]int64{0x7e}, []impl.Group{{N: 3, Type: 0x7d}, {N: 0, Type: 0x7f}}, map[int64]string{0: "I", 1: "f", 3: "f", 4: ""}},
		{nil, []impl.Group{{N: math.MaxUint32, Type: 0x7f}}, map[int64]string{0: "i", math.MaxUint32 - 1: "i", math.MaxUint32: ""}},
		{[]int64{0x7c}, []impl.Group{{N: math.MaxUint32, Type: 0x7f}}, map[int64]string{0: "F", 1: "i", math.MaxUint32: "i"}},
		{nil, []impl.Group{{N: 1 << 31, Type: 0x7f}, {N: 1<<31 - 1, Type: 0x7e}},
			map[int64]string{1<<31 - 1: "i", 1 << 31: "I", math.MaxUint32 - 1: "I", math.MaxUint32: ""}},
		{[]int64{0x7f, 0x7f, 0x7f}, []impl.Group{{N: math.MaxUint32 - 1, Type: 0x7e}, {N: 1, Type: 0x7d}},
			map[int64]string{2: "i", 3: "I", math.MaxUint32: "I"}},
	}
	for _, r := range rows {
		m := bodyModule(impl.FuncType{Params: r.params}, nil)
		m.Codes[1].Locals = r.groups
		for number, own := range r.types {
			checkLocal(t, m, number, own)
		}
	}
}

// checkLocal holds a local against a value of each type: got and chosen beside
// it, set and teed with it.
func checkLocal(t *testing.T, m impl.Module, number int64, own string) {
	t.Helper()
	uses := []struct {
		op   int64
		rest string
		pos  int64 // where another type shows
	}{{0x20, "i32.const; select; drop; end", 3}, {0x21, "end", 1}, {0x22, "drop; end", 1}}
	for _, c := range []string{"i", "I", "f", "F"} {
		for _, u := range uses {
			m.Codes[1].Body = slices.Concat(consts(c), []impl.Ins{{Op: u.op, A: number}}, asm(u.rest))
			want := atBody(impl.VaType, u.pos)
			switch own {
			case "":
				want = atBody(impl.VaIndex, 1)
			case c:
				want = impl.ValRes{}
			}
			checkModule(t, m.Codes[1], m, want)
		}
	}
}

func TestManyGroups(t *testing.T) {
	const count = 20000
	m := bodyModule(impl.FuncType{}, nil)
	m.Codes[1].Locals = nil
	for i := range int64(count) {
		m.Codes[1].Locals = append(m.Codes[1].Locals, impl.Group{N: i % 3, Type: 0x7f - i%4})
	}
	var body []impl.Ins
	var number int64
	for i := range int64(count) {
		for range i % 3 {
			body = append(body, consts("iIfF"[i%4 : i%4+1])[0], impl.Ins{Op: 0x21, A: number})
			number++
		}
	}
	m.Codes[1].Body = append(body, ins(0x0b))
	if got := impl.Validate(m); got != (impl.ValRes{}) {
		t.Errorf("many groups: %+v", got)
	}
	m.Codes[1].Body = append(body, impl.Ins{Op: 0x20, A: number}, ins(0x0b))
	if got := impl.Validate(m); got != atBody(impl.VaIndex, int64(len(body))) {
		t.Errorf("one behind many groups: %+v", got)
	}
}

func TestIndexesInBodies(t *testing.T) {
	rows := []bodyRow{
		{"", "i64.const; call 0; drop; end", 0, 0},
		{"", "call 2; end", 0, 0},
		{"", "call 3; end", impl.VaIndex, 0},
		{"", "nop; call 0xffffffff; end", impl.VaIndex, 1},
		{"", "i64.const; i32.const; call_indirect 1; drop; end", 0, 0},
		{"", "i32.const; i64.const; i32.const; call_indirect 2; drop; end", 0, 0},
		{"", "i32.const; call_indirect 3; end", impl.VaIndex, 1},
		{"", "i32.const; call_indirect 0xffffffff; end", impl.VaIndex, 1},
		{"", "i32.const; i64.const; call_indirect 1; drop; end", impl.VaType, 2},
		{"", "global.get 3; drop; end", 0, 0},
		{"", "global.get 4; drop; end", impl.VaIndex, 0},
		{"", "global.get 0xffffffff; drop; end", impl.VaIndex, 0},
		{"", "f64.const; global.set 3; end", 0, 0},
		{"", "f64.const; global.set 4; end", impl.VaIndex, 1},
		{"", "i32.const; global.set 0; end", impl.VaMut, 1},
		{"", "f32.const; global.set 2; end", impl.VaMut, 1},
		{"", "f32.const; global.set 1; end", impl.VaType, 1},
	}
	checkBodies(t, rows)
	m := bodyModule(impl.FuncType{}, asm("call 1; end"))
	m.Imports = m.Imports[1:]
	checkModule(t, "call without the imported one", m, impl.ValRes{})
	m.Codes[1].Body = asm("call 2; end")
	checkModule(t, "call of one more", m, atBody(impl.VaIndex, 0))
	m.Imports[0].Global.Mut = true
	m.Codes[1].Body = asm("i32.const; global.set 0; end")
	checkModule(t, "an imported global that is Mut", m, impl.ValRes{})
}
