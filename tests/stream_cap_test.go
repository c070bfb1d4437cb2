package tests

import (
	"math"
	"slices"
	"strings"
	"testing"

	"loop.example/s00119/impl"
)

// wantMeasure counts in the module itself, whatever its bytes are.
func wantMeasure(m impl.Module) impl.Caps {
	n := counts(m)
	c := impl.Caps{Types: int64(n[0]), Imports: int64(n[1]), Funcs: int64(n[2]), Globals: int64(n[3]), Exports: int64(n[4])}
	var names []string
	for _, x := range m.Imports {
		names = append(names, x.Module, x.Name)
	}
	for _, x := range m.Exports {
		names = append(names, x.Name)
	}
	for _, x := range m.Customs {
		names = append(names, x.Name)
	}
	for _, s := range names {
		c.Name = max(c.Name, int64(len(s)))
	}
	var lists [][]impl.Ins
	for _, g := range m.Globals {
		lists = append(lists, g.Init)
	}
	for _, e := range m.Elems {
		lists = append(lists, e.Offset)
		c.Elems += int64(len(e.Funcs))
	}
	for _, d := range m.Datas {
		lists = append(lists, d.Offset)
	}
	for i, code := range m.Codes {
		lists = append(lists, code.Body)
		var locals int64
		if ty := m.Funcs[i]; ty < int64(len(m.Types)) {
			locals = int64(len(m.Types[ty].Params))
		}
		for _, g := range code.Locals {
			locals += g.N
		}
		c.Locals = max(c.Locals, locals)
	}
	for _, list := range lists {
		depth, labels := listMeasure(list)
		c.Depth, c.Labels = max(c.Depth, depth), max(c.Labels, labels)
	}
	return c
}

func listMeasure(list []impl.Ins) (deepest, labels int64) {
	for i, x := range list {
		labels = max(labels, int64(len(x.L)))
		deepest = max(deepest, int64(len(closedBody(list[:i]))-i-1))
	}
	return deepest, labels
}

// capRow is a valid text behind the first eight bytes, a cap, and for each value
// of it the byte that passes it, 0 where none does; At is counted from behind
// the eight.
type capRow struct {
	name   string
	number int64
	b      string
	at     map[int64]int64
}

// twoLocals is a function of two parameters, ahead of its code: 12 bytes.
const twoLocals = "01 06 01 60 02 7f 7f 00 03 02 01 00 "

func capRows() []capRow {
	none := int64(0)
	return []capRow{
		{"types", 1, "01 07 02 60 00 00 60 00 00", map[int64]int64{2: none, 1: 9, 0: 6, -1: 6}},
		{"imports", 2, "02 0b 02 00 00 02 00 00 00 00 03 7f 00", map[int64]int64{2: none, 1: 13, 0: 8, -5: 8}},
		{"functions", 3, oneType + "02 05 01 00 00 00 00 03 03 02 00 00 0a 07 02 02 00 0b 02 00 0b", map[int64]int64{3: none, 2: 18, 1: 17, 0: 13, -1: 13}},
		{"functions among imports", 3, oneType + "02 0e 03 00 00 00 00 00 00 02 00 00 00 00 00 00", map[int64]int64{2: none, 1: 22, 0: 13}},
		{"globals", 4, "02 06 01 00 00 03 7f 00 06 0b 02 7f 00 41 00 0b 7f 01 41 00 0b", map[int64]int64{3: none, 2: 21, 1: 16, 0: 8, -1: 8}},
		{"globals of long numbers", 4, "06 08 01 7f 00 41 80 80 00 0b", map[int64]int64{1: none, 0: 10}},
		{"exports", 5, oneMem + "07 09 02 01 61 02 00 01 62 02 00", map[int64]int64{2: none, 1: 16, 0: 12, -1: 12}},
		{"locals", 6, twoLocals + "0a 08 01 06 02 01 7f 02 7e 0b", map[int64]int64{5: none, 4: 20, 3: 20, 2: 18, 1: 17, 0: 17, -1: 17}},
		{"locals of a group of none", 6, twoLocals + "0a 08 01 06 02 00 7f 01 7e 0b", map[int64]int64{3: none, 2: 20, 1: 17}},
		{"locals in a long number", 6, twoLocals + "0a 09 01 07 81 00 83 80 00 7f 0b", map[int64]int64{5: none, 4: 21, 2: 21, 1: 18}},
		{"parameters alone", 6, twoLocals + "0a 04 01 02 00 0b", map[int64]int64{2: none, 1: 17, 0: 17}},
		{"no locals", 6, oneFunc + "0a 04 01 02 00 0b", map[int64]int64{0: none, -1: 15}},
		{"locals without end", 6, twoLocals + "0a 0c 01 0a 02 fe ff ff ff 0f 7f 01 7e 0b", map[int64]int64{1<<32 + 1: none, 1 << 32: 24, 1<<32 - 1: 22, 1: 17}},
		{"the greater of two functions", 6, oneType + "03 03 02 00 00 0a 0b 02 04 01 01 7f 0b 04 01 02 7f 0b", map[int64]int64{2: none, 1: 22, 0: 17}},
		{"depth", 7, oneFunc + "0a 0a 01 08 00 02 40 03 40 0b 0b 0b", map[int64]int64{2: none, 1: 18, 0: 16, -1: 16}},
		{"depth of an if", 7, oneFunc + "0a 10 01 0e 00 41 00 04 40 02 40 0b 05 03 40 0b 0b 0b", map[int64]int64{2: none, 1: 20, 0: 18}},
		{"depth of an else", 7, oneFunc + "0a 0d 01 0b 00 41 00 04 40 05 03 40 0b 0b 0b", map[int64]int64{2: none, 1: 21, 0: 18}},
		{"blocks in a row", 7, oneFunc + "0a 0d 01 0b 00 02 40 0b 02 40 0b 03 40 0b 0b", map[int64]int64{1: none, 0: 16}},
		{"labels", 8, oneFunc + "0a 0c 01 0a 00 41 00 0e 82 00 00 00 00 0b", map[int64]int64{2: none, 1: 20, 0: 20}},
		{"no labels but the last", 8, oneFunc + "0a 09 01 07 00 41 00 0e 00 00 0b", map[int64]int64{0: none, -1: 19}},
		{"name of a custom", 9, "00 04 03 61 62 63", map[int64]int64{3: none, 2: 3, 0: 3, -1: 3}},
		{"name without bytes", 9, "00 03 80 80 00", map[int64]int64{0: none, -1: 5}},
		{"names of imports", 9, "02 09 01 01 61 02 c3 a9 02 00 00", map[int64]int64{2: none, 1: 6, 0: 4}},
		{"name of an export", 9, oneMem + "07 07 01 81 00 61 02 80 00", map[int64]int64{1: none, 0: 10}},
		{"elements", 10, oneFunc + oneTable + "09 15 03 00 41 00 0b 02 00 00 00 41 00 0b 00 00 41 00 0b 02 80 00 00 0a 04 01 02 00 0b", map[int64]int64{4: none, 3: 39, 2: 38, 1: 26, 0: 25, -1: 25}},
	}
}

func TestEachCap(t *testing.T) {
	for _, r := range capRows() {
		b := behindHead(r.b)
		for value, at := range r.at {
			lim := withCap(noCaps(), r.number, value)
			if at == 0 {
				checkOpen(t, b, lim, accepted(int64(len(b))))
			} else {
				checkShows(t, b, lim, overCap(r.number, at+8))
			}
		}
	}
}

// TestDepthAheadOfTheBlockType has a block type that is none behind the opcode
// that passes the cap.
func TestDepthAheadOfTheBlockType(t *testing.T) {
	for _, op := range []string{"02", "03", "04"} {
		b := behindHead(oneFunc + "0a 0a 01 08 00 02 40 " + op + " 41 0b 0b 0b")
		checkShows(t, b, withCap(noCaps(), 7, 2), malformed(impl.BinForm, 8+19))
		checkShows(t, b, withCap(noCaps(), 7, 1), overCap(7, 8+18))
		checkShows(t, b[:8+18], withCap(noCaps(), 7, 1), overCap(7, 8+18))
		checkShows(t, b, withCap(noCaps(), 7, 0), overCap(7, 8+16))
	}
	for depth := range 40 {
		list := slices.Repeat([]impl.Ins{{Op: 0x02, A: 0x40}}, depth)
		b := impl.Encode(bodyModule(funcType(""), closedBody(list)))
		checkOpen(t, b, withCap(noCaps(), 7, int64(depth)), accepted(int64(len(b))))
		if depth > 0 {
			at := int64(len(b) - depth - 1 - 1)
			checkShows(t, b, withCap(noCaps(), 7, int64(depth)-1), overCap(7, at))
		}
	}
}

// TestLimitsOfEachCap has each cap at what Measure gives, one less, 0, and none.
func TestLimitsOfEachCap(t *testing.T) {
	k := newMaker(72)
	seen := map[int64]int{}
	modules := []impl.Module{
		soundModule(), {}, bodyModule(funcType(""), asm("block; i32.const; br_table 0 1 1 0 1 0; end; end")), bodyModule(funcType("i32"), asm("i32.const; br_table 0 0 0; end")),
	}
	for range 200 {
		m := k.validModule()
		m.Customs = some(k, 2, func() impl.Custom { return impl.Custom{Name: k.name()} })
		modules = append(modules, m)
	}
	for _, m := range modules {
		b := impl.Encode(m)
		if len(b) == 0 {
			continue
		}
		least := impl.Measure(m)
		if want := wantMeasure(m); least != want {
			t.Fatalf("%+v: measured %+v, want %+v", m, least, want)
		}
		whole := accepted(int64(len(b)))
		checkVerdict(t, b, least, whole)
		checkVerdict(t, b, noCaps(), whole)
		for i, value := range capList(least) {
			number := int64(i) + 1
			checkVerdict(t, b, withCap(least, number, impl.CapNone), whole)
			checkVerdict(t, b, withCap(noCaps(), number, value), whole)
			for _, less := range []int64{value - 1, 0} {
				if value == 0 || less < 0 {
					continue
				}
				seen[number]++
				for _, lim := range []impl.Caps{withCap(least, number, less), withCap(noCaps(), number, less)} {
					v := impl.Verdict(b, lim)
					if v.Kind != impl.VkCap || v.Code != number {
						t.Fatalf("% x with %v: %+v, want cap %d", b, capList(lim), v, number)
					}
					checkVerdict(t, b, lim, v)
				}
			}
		}
	}
	for number := range int64(10) {
		if seen[number+1] < 5 {
			t.Errorf("cap %d was passed %d times", number+1, seen[number+1])
		}
	}
}

func TestMeasureByHand(t *testing.T) {
	rows := []struct {
		m    impl.Module
		want impl.Caps
	}{
		{impl.Module{}, impl.Caps{}},
		{soundModule(), impl.Caps{Types: 4, Imports: 5, Funcs: 5, Globals: 6, Exports: 5, Locals: 2, Name: 5, Elems: 5}},
		{fullModule(), impl.Caps{Types: 2, Imports: 4, Funcs: 3, Globals: 3, Exports: 4, Locals: 7, Depth: 1, Name: 4, Elems: 2}},
		{impl.Module{Customs: []impl.Custom{{Name: "é\U0010ffff"}, {Name: "four"}}}, impl.Caps{Name: 6}},
		{impl.Module{Globals: []impl.Global{{Type: impl.GlobalType{Type: 0x7f}, Init: asm("block; loop; end; br_table 1 2 3; end; end")}}}, impl.Caps{Globals: 1, Depth: 2, Labels: 2}},
		{impl.Module{Elems: []impl.Elem{{Offset: asm("if; else; if; end; end; end"), Funcs: []int64{9, 9}}}}, impl.Caps{Depth: 2, Elems: 2}},
		{impl.Module{Datas: []impl.Data{{Offset: asm("block; end; block; end; br_table 5; end")}}}, impl.Caps{Depth: 1}},
		{impl.Module{Types: []impl.FuncType{funcType("i32 i32 i32")}, Funcs: []int64{0, 7}, Codes: []impl.Code{{Body: asm("end")}, {Locals: []impl.Group{{N: 2, Type: 0x7f}}, Body: asm("end")}}}, impl.Caps{Types: 1, Funcs: 2, Locals: 3}},
		{impl.Module{Types: []impl.FuncType{funcType("i32")}, Funcs: []int64{0}, Codes: []impl.Code{{Locals: []impl.Group{{N: math.MaxUint32, Type: 0x7f}}, Body: asm("end")}}}, impl.Caps{Types: 1, Funcs: 1, Locals: 1 << 32}},
		{impl.Module{Types: []impl.FuncType{funcType("i32 i64 f32")}, Imports: []impl.Import{{Kind: 0}, {Kind: 1}, {Kind: 2}, {Kind: 3, Global: impl.GlobalType{Type: 0x7f}}}}, impl.Caps{Types: 1, Imports: 4, Funcs: 1, Globals: 1}},
	}
	for i, r := range rows {
		if got := impl.Measure(r.m); got != r.want {
			t.Errorf("row %d: %+v, want %+v", i, got, r.want)
		}
		if ref := wantMeasure(r.m); ref != r.want {
			t.Errorf("row %d: the tests count %+v, want %+v", i, ref, r.want)
		}
	}
}

func TestMeasureOfWhatIsNotWritten(t *testing.T) {
	good := soundModule()
	spoils := map[string]func(m *impl.Module){
		"a start that there is not": func(m *impl.Module) { m.HasStart = false },
		"no codes":                  func(m *impl.Module) { m.Codes = nil },
		"a type":                    func(m *impl.Module) { m.Types[0].Params = []int64{1} },
		"a name":                    func(m *impl.Module) { m.Exports[0].Name = "\xff" },
		"a body":                    func(m *impl.Module) { m.Codes[0].Body = nil },
		"an index":                  func(m *impl.Module) { m.Funcs[0] = -1 },
		"too many bytes":            func(m *impl.Module) { m.Datas[0].Bytes = make([]byte, 65536) },
	}
	for name, spoil := range spoils {
		m := soundModule()
		spoil(&m)
		if got := impl.Measure(m); got != (impl.Caps{}) {
			t.Errorf("%s: %+v", name, got)
		}
	}
	if !same(good, soundModule()) {
		t.Errorf("the argument was written to")
	}
	name := strings.Repeat("n", 65536-8-8)
	if got := impl.Measure(impl.Module{Customs: []impl.Custom{{Name: name[:len(name)-1]}}}); got != (impl.Caps{Name: int64(len(name)) - 1}) {
		t.Errorf("the longest name: %+v", got)
	}
}

// TestMeasureOfAnyModule has modules that are well formed and seldom valid.
func TestMeasureOfAnyModule(t *testing.T) {
	k := newMaker(73)
	for range 4000 {
		m := k.module()
		if got, want := impl.Measure(m), wantMeasure(m); got != want {
			t.Fatalf("%+v: measured %+v, want %+v", m, got, want)
		}
	}
}
