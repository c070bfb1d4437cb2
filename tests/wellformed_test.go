package tests

import (
	"math"
	"reflect"
	"slices"
	"testing"

	"loop.example/s00119/impl"
)

// fullModule has something in every section, an import and an export of every
// kind, and a custom behind every section.
func fullModule() impl.Module {
	offset := func(n uint64) []impl.Ins { return []impl.Ins{{Op: 0x41, V: n}, {Op: 0x0b}} }
	m := impl.Module{
		Types: []impl.FuncType{{}, {Params: []int64{0x7f, 0x7e, 0x7d, 0x7c}, Results: []int64{0x7f}}},
		Imports: []impl.Import{
			{Module: "host", Name: "out", Kind: 0, Type: 1},
			{Module: "a", Name: "t", Kind: 1, Lim: impl.Limits{Min: 1, Max: 2, HasMax: true}},
			{Module: "a", Name: "m", Kind: 2, Lim: impl.Limits{Min: 3}},
			{Module: "a", Name: "g", Kind: 3, Global: impl.GlobalType{Type: 0x7c, Mut: true}},
		},
		Funcs:  []int64{0, 1},
		Tables: []impl.Limits{{Min: 4, Max: 5, HasMax: true}},
		Mems:   []impl.Limits{{Min: 6}},
		Globals: []impl.Global{
			{Type: impl.GlobalType{Type: 0x7f, Mut: true}, Init: offset(7)},
			{Type: impl.GlobalType{Type: 0x7e}, Init: []impl.Ins{{Op: 0x42, V: 1 << 40}, {Op: 0x0b}}},
		},
		Exports:  []impl.Export{{Name: "f", Kind: 0, Index: 1}, {Name: "t", Kind: 1}, {Name: "m", Kind: 2}, {Name: "g", Kind: 3}},
		HasStart: true,
		Start:    2,
		Elems:    []impl.Elem{{Offset: offset(0), Funcs: []int64{1, 2}}},
		Codes: []impl.Code{
			{Body: insList(0x01, 0x0b)},
			{Locals: []impl.Group{{N: 2, Type: 0x7f}, {N: 1, Type: 0x7c}}, Body: insList(0x04, 0x05, 0x0b, 0x0b)},
		},
		Datas: []impl.Data{{Offset: offset(8), Bytes: []byte("abc")}},
	}
	for after := range int64(12) {
		m.Customs = append(m.Customs, impl.Custom{After: after, Name: "c", Bytes: []byte{1, 2}})
	}
	return m
}

// change is a change of a module, by what it is said to do.
type change struct {
	name string
	do   func(m *impl.Module)
}

func checkChanges(t *testing.T, changes []change, want bool) {
	t.Helper()
	for _, c := range changes {
		m := fullModule()
		c.do(&m)
		if got := impl.WellFormed(m); got != want {
			t.Errorf("%s: %v", c.name, got)
		}
	}
}

func TestFullModule(t *testing.T) {
	m := fullModule()
	if !impl.WellFormed(m) || !impl.WellFormed(impl.Module{}) {
		t.Errorf("the full module or the empty one is refused")
	}
	if !reflect.DeepEqual(m, fullModule()) {
		t.Errorf("the argument was written to")
	}
	empty := impl.Module{
		Types: []impl.FuncType{}, Imports: []impl.Import{}, Funcs: []int64{}, Tables: []impl.Limits{}, Mems: []impl.Limits{},
		Globals: []impl.Global{}, Exports: []impl.Export{}, Elems: []impl.Elem{}, Codes: []impl.Code{}, Datas: []impl.Data{},
		Customs: []impl.Custom{},
	}
	if !impl.WellFormed(empty) {
		t.Errorf("empty lists are others than nil")
	}
	for after := int64(1); after < 12; after++ {
		empty.Customs = []impl.Custom{{After: after}}
		if impl.WellFormed(empty) {
			t.Errorf("a custom behind an empty section %d", after)
		}
	}
}

// u32Fields has every field that must be a u32, with a way to set it.
func u32Fields() map[string]func(m *impl.Module, n int64) {
	return map[string]func(m *impl.Module, n int64){
		"import's type":      func(m *impl.Module, n int64) { m.Imports[0].Type = n },
		"import's table min": func(m *impl.Module, n int64) { m.Imports[1].Lim.Min = n },
		"import's table max": func(m *impl.Module, n int64) { m.Imports[1].Lim.Max = n },
		"import's mem min":   func(m *impl.Module, n int64) { m.Imports[2].Lim.Min = n },
		"import's mem max":   func(m *impl.Module, n int64) { m.Imports[2].Lim = impl.Limits{Max: n, HasMax: true} },
		"function":           func(m *impl.Module, n int64) { m.Funcs[1] = n },
		"table min":          func(m *impl.Module, n int64) { m.Tables[0].Min = n },
		"table max":          func(m *impl.Module, n int64) { m.Tables[0].Max = n },
		"memory min":         func(m *impl.Module, n int64) { m.Mems[0].Min = n },
		"memory max":         func(m *impl.Module, n int64) { m.Mems[0] = impl.Limits{Max: n, HasMax: true} },
		"export's index":     func(m *impl.Module, n int64) { m.Exports[3].Index = n },
		"start":              func(m *impl.Module, n int64) { m.Start = n },
		"element":            func(m *impl.Module, n int64) { m.Elems[0].Funcs[1] = n },
		"N":                  func(m *impl.Module, n int64) { m.Codes[1].Locals = []impl.Group{{N: n, Type: 0x7f}} },
		"index in a body":    func(m *impl.Module, n int64) { m.Codes[0].Body[0] = impl.Ins{Op: 0x20, A: n} },
		"alignment":          func(m *impl.Module, n int64) { m.Codes[0].Body[0] = impl.Ins{Op: 0x28, A: n} },
		"offset":             func(m *impl.Module, n int64) { m.Codes[0].Body[0] = impl.Ins{Op: 0x28, B: n} },
		"label":              func(m *impl.Module, n int64) { m.Codes[0].Body[0] = impl.Ins{Op: 0x0e, L: []int64{0, n}} },
		"global of an init":  func(m *impl.Module, n int64) { m.Globals[1].Init[0] = impl.Ins{Op: 0x23, A: n} },
	}
}

func TestNumbersAreU32s(t *testing.T) {
	for name, set := range u32Fields() {
		for _, n := range u32s() {
			checkChanges(t, []change{{name, func(m *impl.Module) { set(m, n) }}}, true)
		}
		for _, n := range noU32s() {
			checkChanges(t, []change{{name, func(m *impl.Module) { set(m, n) }}}, false)
		}
	}
}

func TestTypesAreValueTypes(t *testing.T) {
	fields := map[string]func(m *impl.Module, n int64){
		"parameter":            func(m *impl.Module, n int64) { m.Types[1].Params[3] = n },
		"result":               func(m *impl.Module, n int64) { m.Types[1].Results[0] = n },
		"imported global":      func(m *impl.Module, n int64) { m.Imports[3].Global.Type = n },
		"imported const":       func(m *impl.Module, n int64) { m.Imports[3].Global = impl.GlobalType{Type: n} },
		"global":               func(m *impl.Module, n int64) { m.Globals[1].Type.Type = n },
		"group":                func(m *impl.Module, n int64) { m.Codes[1].Locals[1].Type = n },
		"group without locals": func(m *impl.Module, n int64) { m.Codes[1].Locals[1] = impl.Group{Type: n} },
	}
	for name, set := range fields {
		for _, n := range valueTypes() {
			checkChanges(t, []change{{name, func(m *impl.Module) { set(m, n) }}}, true)
		}
		for _, n := range append(noTypes(), 0x40) {
			checkChanges(t, []change{{name, func(m *impl.Module) { set(m, n) }}}, false)
		}
	}
	checkChanges(t, []change{
		{"no result", func(m *impl.Module) { m.Types[1].Results = nil }},
		{"no parameter", func(m *impl.Module) { m.Types[1].Params = []int64{} }},
		{"many parameters", func(m *impl.Module) { m.Types[0].Params = slices.Repeat([]int64{0x7e}, 2000) }},
	}, true)
	checkChanges(t, []change{
		{"a second result", func(m *impl.Module) { m.Types[1].Results = []int64{0x7f, 0x7f} }},
		{"a third result", func(m *impl.Module) { m.Types[0].Results = []int64{0x7f, 0x7e, 0x7d} }},
	}, false)
}

func TestLimitsAndStart(t *testing.T) {
	places := map[string]func(m *impl.Module) *impl.Limits{
		"import's table": func(m *impl.Module) *impl.Limits { return &m.Imports[1].Lim },
		"import's mem":   func(m *impl.Module) *impl.Limits { return &m.Imports[2].Lim },
		"table":          func(m *impl.Module) *impl.Limits { return &m.Tables[0] },
		"memory":         func(m *impl.Module) *impl.Limits { return &m.Mems[0] },
	}
	for name, place := range places {
		for _, lim := range []impl.Limits{{}, {HasMax: true}, {Min: 9, Max: 3, HasMax: true}, {Min: math.MaxUint32}} {
			checkChanges(t, []change{{name, func(m *impl.Module) { *place(m) = lim }}}, true)
		}
		for _, n := range []int64{1, math.MaxUint32, 1 << 32, -1, math.MinInt64} {
			checkChanges(t, []change{{name + " max alone", func(m *impl.Module) { *place(m) = impl.Limits{Max: n} }}}, false)
		}
	}
	checkChanges(t, []change{
		{"start 0", func(m *impl.Module) { m.Start = 0 }},
		{"no start", func(m *impl.Module) { m.HasStart, m.Start, m.Customs = false, 0, nil }},
	}, true)
	for _, n := range append(u32s()[1:], noU32s()...) {
		checkChanges(t, []change{{"start alone", func(m *impl.Module) { m.HasStart, m.Start, m.Customs = false, n, nil }}}, false)
	}
	if impl.WellFormed(impl.Module{Start: 1}) || impl.WellFormed(impl.Module{HasStart: true, Start: -1}) {
		t.Errorf("a start that is none")
	}
}

func TestImportsByKind(t *testing.T) {
	strays := []struct {
		of []int64
		do func(x *impl.Import)
	}{
		{[]int64{0}, func(x *impl.Import) { x.Type = 1 }},
		{[]int64{0}, func(x *impl.Import) { x.Type = math.MaxUint32 }},
		{[]int64{1, 2}, func(x *impl.Import) { x.Lim.Min = 1 }},
		{[]int64{1, 2}, func(x *impl.Import) { x.Lim = impl.Limits{Max: 1, HasMax: true} }},
		{[]int64{1, 2}, func(x *impl.Import) { x.Lim.HasMax = true }},
		{[]int64{3}, func(x *impl.Import) { x.Global.Type = 0x7f }},
		{[]int64{3}, func(x *impl.Import) { x.Global = impl.GlobalType{Type: 0x7c, Mut: true} }},
	}
	plain := []impl.Import{{Kind: 0}, {Kind: 1}, {Kind: 2}, {Kind: 3, Global: impl.GlobalType{Type: 0x7d}}}
	for _, x := range plain {
		for i, s := range strays {
			y := x
			s.do(&y)
			if got := impl.WellFormed(impl.Module{Imports: []impl.Import{y}}); got != slices.Contains(s.of, x.Kind) {
				t.Errorf("kind %d with stray %d: %v", x.Kind, i, got)
			}
		}
		mut := x
		mut.Global.Mut = true
		negative := x
		negative.Lim.Max = -1
		both := x
		both.Type, both.Lim.Min = 1, 1
		wants := []bool{true, x.Kind == 3, false, false}
		for i, y := range []impl.Import{x, mut, negative, both} {
			if got := impl.WellFormed(impl.Module{Imports: []impl.Import{y}}); got != wants[i] {
				t.Errorf("%+v: %v", y, got)
			}
		}
	}
}

func TestKindsThatAreNone(t *testing.T) {
	for _, kind := range []int64{-1, 4, 5, 255, 256, 1 << 32, math.MinInt64, math.MaxInt64, 1<<32 | 3} {
		checkChanges(t, []change{
			{"export", func(m *impl.Module) { m.Exports[0].Kind = kind }},
			{"import", func(m *impl.Module) { m.Imports[0].Kind = kind }},
			{"import without more", func(m *impl.Module) { m.Imports = []impl.Import{{Kind: kind}} }},
		}, false)
	}
	for kind := range int64(4) {
		checkChanges(t, []change{{"export", func(m *impl.Module) { m.Exports[2].Kind = kind }}}, true)
	}
}

func TestNamesAreUtf8(t *testing.T) {
	fields := map[string]func(m *impl.Module, s string){
		"import's module": func(m *impl.Module, s string) { m.Imports[1].Module = s },
		"import's name":   func(m *impl.Module, s string) { m.Imports[2].Name = s },
		"export's name":   func(m *impl.Module, s string) { m.Exports[3].Name = s },
		"custom's name":   func(m *impl.Module, s string) { m.Customs[11].Name = s },
		"first custom":    func(m *impl.Module, s string) { m.Customs[0].Name = s },
	}
	for name, set := range fields {
		for _, s := range []string{"", "a", "\x00", "\x7f", "é", "\ud7ff", "\ue000", "\U0010ffff", "\"\\\n"} {
			checkChanges(t, []change{{name + " " + s, func(m *impl.Module) { set(m, s) }}}, true)
		}
		for _, s := range []string{"\xff", "\x80", "a\xc3", "\xc0\x80", "\xed\xa0\x80", "\xf4\x90\x80\x80", "\xe0\x9f\xbf", "ok\xf0\x9f\x98"} {
			checkChanges(t, []change{{name, func(m *impl.Module) { set(m, s) }}}, false)
		}
	}
	checkChanges(t, []change{
		{"bytes of a custom", func(m *impl.Module) { m.Customs[3].Bytes = []byte{0xff, 0xc0, 0} }},
		{"bytes of data", func(m *impl.Module) { m.Datas[0].Bytes = []byte{0xff, 0xc0, 0} }},
		{"no bytes", func(m *impl.Module) { m.Datas[0].Bytes, m.Customs[0].Bytes = nil, nil }},
		{"one name twice", func(m *impl.Module) { m.Exports[0].Name, m.Exports[1].Name = "x", "x" }},
	}, true)
}

func TestListsOfAModuleAreClosed(t *testing.T) {
	places := map[string]func(m *impl.Module) *[]impl.Ins{
		"first init": func(m *impl.Module) *[]impl.Ins { return &m.Globals[0].Init },
		"last init":  func(m *impl.Module) *[]impl.Ins { return &m.Globals[1].Init },
		"elements":   func(m *impl.Module) *[]impl.Ins { return &m.Elems[0].Offset },
		"data":       func(m *impl.Module) *[]impl.Ins { return &m.Datas[0].Offset },
		"first body": func(m *impl.Module) *[]impl.Ins { return &m.Codes[0].Body },
		"last body":  func(m *impl.Module) *[]impl.Ins { return &m.Codes[1].Body },
	}
	open := [][]impl.Ins{
		nil, {}, insList(0x01), insList(0x02, 0x0b), insList(0x0b, 0x0b), insList(0x05, 0x0b), insList(0x06, 0x0b),
		insList(0x04, 0x05, 0x05, 0x0b, 0x0b), {{Op: 0x41, V: 1 << 32}, {Op: 0x0b}}, {{Op: 0x43, V: 1 << 63}, {Op: 0x0b}},
		{{Op: 0x1a, A: 1}, {Op: 0x0b}}, {{Op: 0x0b, B: 1}}, {{Op: 0x02}, {Op: 0x0b}, {Op: 0x0b}},
	}
	closed := [][]impl.Ins{insList(0x0b), insList(0x01, 0x01, 0x0b), insList(0x02, 0x0b, 0x0b), {{Op: 0x44, V: math.MaxUint64}, {Op: 0x0b}}}
	for name, place := range places {
		for _, list := range open {
			checkChanges(t, []change{{name, func(m *impl.Module) { *place(m) = list }}}, false)
		}
		for _, list := range closed {
			checkChanges(t, []change{{name, func(m *impl.Module) { *place(m) = list }}}, true)
		}
	}
}

func TestAsManyCodesAsFuncs(t *testing.T) {
	checkChanges(t, []change{
		{"a code more", func(m *impl.Module) { m.Codes = append(m.Codes, impl.Code{Body: insList(0x0b)}) }},
		{"a function more", func(m *impl.Module) { m.Funcs = append(m.Funcs, 0) }},
		{"a code less", func(m *impl.Module) { m.Codes = m.Codes[:1] }},
		{"a function less", func(m *impl.Module) { m.Funcs = m.Funcs[:1] }},
		{"no code", func(m *impl.Module) { m.Codes, m.Customs = nil, nil }},
		{"no function", func(m *impl.Module) { m.Funcs, m.Customs = nil, nil }},
	}, false)
	checkChanges(t, []change{
		{"one more of both", func(m *impl.Module) {
			m.Funcs, m.Codes = append(m.Funcs, 9), append(m.Codes, impl.Code{Body: insList(0x0b)})
		}},
		{"none of both", func(m *impl.Module) { m.Funcs, m.Codes, m.Customs = nil, nil, nil }},
	}, true)
}

func TestGroupsTogether(t *testing.T) {
	rows := []struct {
		ns   []int64
		want bool
	}{
		{nil, true},
		{[]int64{0}, true},
		{[]int64{0, 0, 0}, true},
		{[]int64{math.MaxUint32}, true},
		{[]int64{math.MaxUint32, 0}, true},
		{[]int64{0, math.MaxUint32}, true},
		{[]int64{math.MaxUint32, 1}, false},
		{[]int64{1, math.MaxUint32}, false},
		{[]int64{1 << 31, 1<<31 - 1}, true},
		{[]int64{1 << 31, 1 << 31}, false},
		{[]int64{1 << 31, 1 << 30, 1<<30 - 1}, true},
		{[]int64{1 << 31, 1 << 30, 1 << 30}, false},
		{[]int64{math.MaxUint32, math.MaxUint32}, false},
		{[]int64{math.MaxUint32, math.MaxUint32, 2}, false},
		{[]int64{math.MaxUint32, -1, 1}, false},
		{[]int64{-1, 1}, false},
		{[]int64{math.MaxInt64, math.MaxInt64, 2}, false},
		{slices.Repeat([]int64{1 << 16}, 1<<16-1), true},
		{slices.Repeat([]int64{1 << 16}, 1<<16), false},
		{append(slices.Repeat([]int64{1 << 16}, 1<<16-1), 1<<16-1), true},
	}
	for i, r := range rows {
		var groups []impl.Group
		for _, n := range r.ns {
			groups = append(groups, impl.Group{N: n, Type: 0x7c})
		}
		checkChanges(t, []change{{"groups", func(m *impl.Module) { m.Codes[0].Locals = groups }}}, r.want)
		m := fullModule()
		m.Codes[0].Locals, m.Codes[1].Locals = groups, groups
		if impl.WellFormed(m) != r.want {
			t.Errorf("row %d in two bodies", i)
		}
	}
}

// sectionModule has something in just the sections whose bit is set; functions
// and codes go together.
func sectionModule(bits int64) impl.Module {
	full := fullModule()
	var m impl.Module
	fills := map[int64]func(){
		1: func() { m.Types = full.Types }, 2: func() { m.Imports = full.Imports }, 3: func() { m.Funcs = full.Funcs },
		4: func() { m.Tables = full.Tables }, 5: func() { m.Mems = full.Mems }, 6: func() { m.Globals = full.Globals },
		7: func() { m.Exports = full.Exports }, 8: func() { m.HasStart = true }, 9: func() { m.Elems = full.Elems },
		10: func() { m.Codes = full.Codes }, 11: func() { m.Datas = full.Datas },
	}
	for number, fill := range fills {
		if bits>>number&1 == 1 {
			fill()
		}
	}
	return m
}

func TestCustomsBehindWrittenSections(t *testing.T) {
	for bits := int64(0); bits < 1<<12; bits += 2 {
		m := sectionModule(bits)
		if bits>>3&1 != bits>>10&1 {
			continue
		}
		for _, after := range []int64{math.MinInt64, -256, -1, 0, 1, 2, 3, 4, 5, 6, 7, 8, 9, 10, 11, 12, 13, 64, 257, 1 << 32, math.MaxInt64} {
			want := after == 0 || after > 0 && after < 12 && bits>>after&1 == 1
			m.Customs = []impl.Custom{{After: after}}
			if got := impl.WellFormed(m); got != want {
				t.Fatalf("sections %012b, a custom behind %d: %v", bits, after, got)
			}
		}
	}
}

func TestCustomsInOrder(t *testing.T) {
	for _, bits := range []int64{0xffe, 0xffe &^ 0x100, 0x408, 0x002, 0} {
		m := sectionModule(bits)
		for a := int64(-1); a < 13; a++ {
			for b := int64(-1); b < 13; b++ {
				stands := func(n int64) bool { return n == 0 || n > 0 && n < 12 && bits>>n&1 == 1 }
				m.Customs = []impl.Custom{{After: 0}, {After: a, Name: "x"}, {After: b, Name: "y"}}
				want := stands(a) && stands(b) && a <= b
				if got := impl.WellFormed(m); got != want {
					t.Errorf("sections %012b, customs behind %d and %d: %v", bits, a, b, got)
				}
			}
		}
	}
}
