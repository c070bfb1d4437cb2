package tests

import (
	"cmp"
	"maps"
	"math"
	"reflect"
	"slices"
	"strconv"
	"testing"

	"loop.example/s00119/impl"
)

// soundModule is valid, and has several entries in every section where there
// may be several: functions 0..4, of which 0 and 1 are imported, and globals
// 0..5, of which 0..2 are (an i32, an i64 that is Mut, and an f64).
func soundModule() impl.Module {
	global := func(ty int64, mut bool) impl.GlobalType { return impl.GlobalType{Type: ty, Mut: mut} }
	return impl.Module{
		Types: []impl.FuncType{funcType(""), funcType("i64 -> f32"), funcType("i32 ->"), funcType("-> f64")},
		Imports: []impl.Import{
			{Module: "a", Name: "first", Type: 1},
			{Module: "a", Name: "b", Kind: 3, Global: global(0x7f, false)},
			{Module: "a", Name: "b", Kind: 3, Global: global(0x7e, true)},
			{Module: "a", Name: "c", Kind: 3, Global: global(0x7c, false)},
			{Module: "a", Name: "last", Type: 3},
		},
		Funcs:  []int64{0, 2, 0},
		Tables: []impl.Limits{{Min: 2}},
		Mems:   []impl.Limits{{Min: 1, Max: 2, HasMax: true}},
		Globals: []impl.Global{
			{Type: global(0x7f, false), Init: asm("i32.const 5; end")},
			{Type: global(0x7c, true), Init: asm("global.get 2; end")},
			{Type: global(0x7f, true), Init: asm("global.get 0; end")},
		},
		Exports: []impl.Export{
			{Name: "f", Kind: 0, Index: 4}, {Name: "t", Kind: 1}, {Name: "m", Kind: 2}, {Name: "g", Kind: 3, Index: 5}, {Name: "", Kind: 0},
		},
		HasStart: true,
		Start:    2,
		Elems: []impl.Elem{
			{Offset: asm("i32.const 0; end"), Funcs: []int64{0, 4}},
			{Offset: asm("global.get 0; end")},
			{Offset: asm("i32.const 1; end"), Funcs: []int64{3, 1, 2}},
		},
		Codes: []impl.Code{
			{Body: asm("call 4; end")},
			{Locals: []impl.Group{{N: 1, Type: 0x7e}}, Body: asm("i32.const; local.set 0; local.get 1; call 0; drop; end")},
			{Body: asm("call 1; drop; end")},
		},
		Datas: []impl.Data{{Offset: asm("i32.const 0; end"), Bytes: []byte("ab")}, {Offset: asm("global.get 0; end")}, {Offset: asm("i32.const 9; end")}},
	}
}

// flaw is a change of soundModule and what Validate then has to say.
type flaw struct {
	name string
	do   func(m *impl.Module)
	want impl.ValRes
}

func memImport(lim impl.Limits) impl.Import { return impl.Import{Kind: 2, Lim: lim} }

func tableImport(lim impl.Limits) impl.Import { return impl.Import{Kind: 1, Lim: lim} }

// badLimits has what is wrong for tables and memories both.
func badLimits() impl.Limits { return impl.Limits{Min: 2, Max: 1, HasMax: true} }

func importFlaws() []flaw {
	many := func(x impl.Import, lim impl.Limits) func(m *impl.Module) {
		return func(m *impl.Module) {
			m.Imports[0], m.Imports[4] = x, x
			m.Imports[4].Lim = lim
		}
	}
	return []flaw{
		{"first type", func(m *impl.Module) { m.Imports[0].Type = 4 }, impl.ValRes{Err: impl.VaIndex, Section: 2}},
		{"last type", func(m *impl.Module) { m.Imports[4].Type = math.MaxUint32 }, impl.ValRes{Err: impl.VaIndex, Section: 2, Index: 4}},
		{"first limits", func(m *impl.Module) { m.Imports[0] = memImport(badLimits()) }, impl.ValRes{Err: impl.VaLimits, Section: 2}},
		{"last limits", func(m *impl.Module) { m.Imports[4] = tableImport(badLimits()) }, impl.ValRes{Err: impl.VaLimits, Section: 2, Index: 4}},
		{"last size", func(m *impl.Module) { m.Imports[4] = memImport(impl.Limits{Min: 65537}) }, impl.ValRes{Err: impl.VaLimits, Section: 2, Index: 4}},
		{"a second memory", many(memImport(impl.Limits{}), impl.Limits{}), impl.ValRes{Err: impl.VaMany, Section: 2, Index: 4}},
		{"a second table", many(tableImport(impl.Limits{}), impl.Limits{}), impl.ValRes{Err: impl.VaMany, Section: 2, Index: 4}},
		{"a second memory with bad limits", many(memImport(impl.Limits{}), badLimits()), impl.ValRes{Err: impl.VaLimits, Section: 2, Index: 4}},
		{"a second table with bad limits", many(tableImport(impl.Limits{}), badLimits()), impl.ValRes{Err: impl.VaLimits, Section: 2, Index: 4}},
		{"own and imported memory", func(m *impl.Module) { m.Imports = append(m.Imports, memImport(impl.Limits{})) }, impl.ValRes{Err: impl.VaMany, Section: 5}},
		{"own and imported table", func(m *impl.Module) { m.Imports = append(m.Imports, tableImport(impl.Limits{})) }, impl.ValRes{Err: impl.VaMany, Section: 4}},
	}
}

func ownFlaws() []flaw {
	return []flaw{
		{"first function", func(m *impl.Module) { m.Funcs[0] = 4 }, impl.ValRes{Err: impl.VaIndex, Section: 3}},
		{"last function", func(m *impl.Module) { m.Funcs[2] = math.MaxUint32 }, impl.ValRes{Err: impl.VaIndex, Section: 3, Index: 2}},
		{"first table", func(m *impl.Module) { m.Tables[0] = badLimits() }, impl.ValRes{Err: impl.VaLimits, Section: 4}},
		{"a second table", func(m *impl.Module) { m.Tables = append(m.Tables, impl.Limits{}, badLimits()) }, impl.ValRes{Err: impl.VaMany, Section: 4, Index: 1}},
		{"a second table with bad limits", func(m *impl.Module) { m.Tables = append(m.Tables, badLimits(), badLimits()) }, impl.ValRes{Err: impl.VaLimits, Section: 4, Index: 1}},
		{"first memory", func(m *impl.Module) { m.Mems[0] = badLimits() }, impl.ValRes{Err: impl.VaLimits, Section: 5}},
		{"first memory's Max", func(m *impl.Module) { m.Mems[0].Max = 65537 }, impl.ValRes{Err: impl.VaLimits, Section: 5}},
		{"a second memory", func(m *impl.Module) { m.Mems = append(m.Mems, impl.Limits{}) }, impl.ValRes{Err: impl.VaMany, Section: 5, Index: 1}},
		{"a second memory with bad limits", func(m *impl.Module) { m.Mems = append(m.Mems, badLimits()) }, impl.ValRes{Err: impl.VaLimits, Section: 5, Index: 1}},
		{"first export's index", func(m *impl.Module) { m.Exports[0].Index = 5 }, impl.ValRes{Err: impl.VaIndex, Section: 7}},
		{"second export's name", func(m *impl.Module) { m.Exports[1].Name = "f" }, impl.ValRes{Err: impl.VaName, Section: 7, Index: 1}},
		{"last export's name", func(m *impl.Module) { m.Exports[4].Name = "f" }, impl.ValRes{Err: impl.VaName, Section: 7, Index: 4}},
		{"last export's index", func(m *impl.Module) { m.Exports[4].Index = math.MaxUint32 }, impl.ValRes{Err: impl.VaIndex, Section: 7, Index: 4}},
		{"last export's name and index", func(m *impl.Module) { m.Exports[4] = impl.Export{Name: "g", Index: 9} }, impl.ValRes{Err: impl.VaName, Section: 7, Index: 4}},
		{"no start", func(m *impl.Module) { m.Start = 5 }, impl.ValRes{Err: impl.VaIndex, Section: 8}},
		{"a start that takes", func(m *impl.Module) { m.Start = 3 }, impl.ValRes{Err: impl.VaType, Section: 8}},
		{"a start that gives", func(m *impl.Module) { m.Start = 1 }, impl.ValRes{Err: impl.VaType, Section: 8}},
		{"a start that takes and gives", func(m *impl.Module) { m.Start = 0 }, impl.ValRes{Err: impl.VaType, Section: 8}},
		{"first body", func(m *impl.Module) { m.Codes[0].Body = asm("nop; drop; end") }, impl.ValRes{Err: impl.VaType, Section: 10, Pos: 1}},
		{"last body", func(m *impl.Module) { m.Codes[2].Body = asm("nop; nop; call 5; drop; end") }, impl.ValRes{Err: impl.VaIndex, Section: 10, Index: 2, Pos: 2}},
		{"last body at its end", func(m *impl.Module) { m.Codes[2].Body = asm("i32.const; end") }, impl.ValRes{Err: impl.VaType, Section: 10, Index: 2, Pos: 1}},
	}
}

// constFlaws has what is wrong with a list that is to give one value: for
// each list Err and Pos, where an i32 is wanted.
func constFlaws() map[string][2]int64 {
	return map[string][2]int64{
		"end":                                {impl.VaType, 0},
		"i64.const; end":                     {impl.VaType, 1},
		"f32.const; end":                     {impl.VaType, 1},
		"f64.const; end":                     {impl.VaType, 1},
		"i32.const; i32.const; end":          {impl.VaType, 2},
		"i64.const; i32.const; end":          {impl.VaType, 2},
		"i32.const; i64.const; end":          {impl.VaType, 2},
		"i32.const; i32.const; nop; end":     {impl.VaConst, 2},
		"global.get 2; end":                  {impl.VaType, 1},
		"global.get 0; i32.const; end":       {impl.VaType, 2},
		"global.get 1; end":                  {impl.VaConst, 0},
		"i32.const; global.get 1; end":       {impl.VaConst, 1},
		"global.get 3; end":                  {impl.VaIndex, 0},
		"global.get 5; end":                  {impl.VaIndex, 0},
		"global.get 6; end":                  {impl.VaIndex, 0},
		"i32.const; global.get 6; end":       {impl.VaIndex, 1},
		"global.get 0xffffffff; end":         {impl.VaIndex, 0},
		"global.get 1; global.get 3; end":    {impl.VaConst, 0},
		"global.get 3; global.get 1; end":    {impl.VaIndex, 0},
		"nop; i32.const; end":                {impl.VaConst, 0},
		"i32.const; nop; end":                {impl.VaConst, 1},
		"i32.const; drop; i32.const; end":    {impl.VaConst, 1},
		"i32.const; i32.const; i32.add; end": {impl.VaConst, 2},
		"block i32; i32.const; end; end":     {impl.VaConst, 0},
		"i32.const; block; end; end":         {impl.VaConst, 1},
		"i32.const; if; else; end; end":      {impl.VaConst, 1},
		"unreachable; end":                   {impl.VaConst, 0},
		"i32.const; return; end":             {impl.VaConst, 1},
		"local.get 0; end":                   {impl.VaConst, 0},
		"i32.const; global.set 0; end":       {impl.VaConst, 1},
		"memory.size; end":                   {impl.VaConst, 0},
		"call 0; end":                        {impl.VaConst, 0},
		"br 0; end":                          {impl.VaConst, 0},
	}
}

// constPlaces has every list of a module that gives an i32, at a first and a
// last entry, with its section and index.
type constPlace struct {
	name    string
	section int64
	index   int64
	list    func(m *impl.Module) *[]impl.Ins
}

func constPlaces() []constPlace {
	return []constPlace{
		{"first global", 6, 0, func(m *impl.Module) *[]impl.Ins { return &m.Globals[0].Init }},
		{"last global", 6, 2, func(m *impl.Module) *[]impl.Ins { return &m.Globals[2].Init }},
		{"first elements", 9, 0, func(m *impl.Module) *[]impl.Ins { return &m.Elems[0].Offset }},
		{"last elements", 9, 2, func(m *impl.Module) *[]impl.Ins { return &m.Elems[2].Offset }},
		{"first data", 11, 0, func(m *impl.Module) *[]impl.Ins { return &m.Datas[0].Offset }},
		{"last data", 11, 2, func(m *impl.Module) *[]impl.Ins { return &m.Datas[2].Offset }},
	}
}

func listFlaws() []flaw {
	var out []flaw
	for _, p := range constPlaces() {
		for _, text := range slices.Sorted(maps.Keys(constFlaws())) {
			wrong := constFlaws()[text]
			out = append(out, flaw{p.name + ": " + text, func(m *impl.Module) { *p.list(m) = asm(text) }, impl.ValRes{Err: wrong[0], Section: p.section, Index: p.index, Pos: wrong[1]}})
		}
	}
	return out
}

func noTable(m *impl.Module) { m.Tables, m.Exports[1] = nil, impl.Export{Name: "t"} }

func noMemory(m *impl.Module) { m.Mems, m.Exports[2] = nil, impl.Export{Name: "m"} }

func elementFlaws() []flaw {
	return []flaw{
		{"first elements' first function", func(m *impl.Module) { m.Elems[0].Funcs[0] = 5 }, impl.ValRes{Err: impl.VaIndex, Section: 9}},
		{"first elements' last function", func(m *impl.Module) { m.Elems[0].Funcs[1] = 5 }, impl.ValRes{Err: impl.VaIndex, Section: 9}},
		{"last elements' first function", func(m *impl.Module) { m.Elems[2].Funcs[0] = math.MaxUint32 }, impl.ValRes{Err: impl.VaIndex, Section: 9, Index: 2}},
		{"last elements' last function", func(m *impl.Module) { m.Elems[2].Funcs[2] = 5 }, impl.ValRes{Err: impl.VaIndex, Section: 9, Index: 2}},
	}
}

// missingFlaws has what is wrong where there is no table or no memory, and what
// it goes ahead of; and what is wrong with a segment at two places.
func missingFlaws() []flaw {
	with := func(all ...func(m *impl.Module)) func(m *impl.Module) {
		return func(m *impl.Module) {
			for _, do := range all {
				do(m)
			}
		}
	}
	offset := func(m *impl.Module) { m.Elems[0].Offset = asm("nop; end") }
	late := func(m *impl.Module) { m.Elems[0].Offset = asm("i64.const; end") }
	funcs := func(m *impl.Module) { m.Elems[0].Funcs[1] = 5 }
	data := func(m *impl.Module) { m.Datas[0].Offset = asm("i64.const; end") }
	return []flaw{
		{"no table", noTable, impl.ValRes{Err: impl.VaIndex, Section: 9}},
		{"no table, and an offset", with(noTable, late), impl.ValRes{Err: impl.VaIndex, Section: 9}},
		{"no table, and all else", with(noTable, offset, funcs), impl.ValRes{Err: impl.VaIndex, Section: 9}},
		{"an offset and a function", with(offset, funcs), impl.ValRes{Err: impl.VaConst, Section: 9}},
		{"an offset's end and a function", with(late, funcs), impl.ValRes{Err: impl.VaType, Section: 9, Pos: 1}},
		{"no memory", noMemory, impl.ValRes{Err: impl.VaIndex, Section: 11}},
		{"no memory, and an offset", with(noMemory, data), impl.ValRes{Err: impl.VaIndex, Section: 11}},
		{"no table and no memory", with(noMemory, noTable), impl.ValRes{Err: impl.VaIndex, Section: 9}},
	}
}

func TestSoundModule(t *testing.T) {
	m := soundModule()
	checkModule(t, "sound", m, impl.ValRes{})
	checkModule(t, "empty", impl.Module{}, impl.ValRes{})
	if !reflect.DeepEqual(m, soundModule()) {
		t.Errorf("the argument was written to")
	}
	again := impl.Decode(impl.Encode(m))
	if again.Err != 0 || !same(again.Module, m) || impl.Validate(again.Module) != (impl.ValRes{}) {
		t.Errorf("written and read: %+v", again)
	}
}

func TestEveryFlaw(t *testing.T) {
	for _, f := range slices.Concat(importFlaws(), ownFlaws(), listFlaws(), elementFlaws(), missingFlaws()) {
		m, copied := soundModule(), soundModule()
		f.do(&m)
		f.do(&copied)
		checkModule(t, f.name, m, f.want)
		if !reflect.DeepEqual(m, copied) {
			t.Errorf("%s: the argument was written to", f.name)
		}
	}
}

// TestTwoFlaws has two of them in one entry, in two entries and in two sections.
func TestTwoFlaws(t *testing.T) {
	flaws := slices.Concat(importFlaws(), ownFlaws(), elementFlaws())
	for i, f := range listFlaws() {
		if i%3 == 0 {
			flaws = append(flaws, f)
		}
	}
	apart := 0
	for _, a := range flaws {
		for _, b := range flaws {
			m, turned := soundModule(), soundModule()
			a.do(&m)
			b.do(&m)
			b.do(&turned)
			a.do(&turned)
			got, want := impl.Validate(m), wantValid(m)
			if got != want {
				t.Fatalf("%s and %s: %+v, want %+v", a.name, b.name, got, want)
			}
			// Where neither undoes the other, the one that stands first is told.
			before := cmp.Or(cmp.Compare(a.want.Section, b.want.Section), cmp.Compare(a.want.Index, b.want.Index))
			if before < 0 && same(m, turned) {
				apart++
				if got != a.want {
					t.Fatalf("%s and %s: %+v, want %+v", a.name, b.name, got, a.want)
				}
			}
		}
	}
	if apart < 1000 {
		t.Errorf("only %d pairs stood apart", apart)
	}
}

func TestWhatIsNotWellFormedIsVaForm(t *testing.T) {
	form := impl.ValRes{Err: impl.VaForm}
	spoils := map[string]func(m *impl.Module){
		"a start without HasStart":  func(m *impl.Module) { m.HasStart = false },
		"a type":                    func(m *impl.Module) { m.Types[0].Params = []int64{0x7b} },
		"two results":               func(m *impl.Module) { m.Types[3].Results = []int64{0x7f, 0x7f} },
		"an index":                  func(m *impl.Module) { m.Funcs[2] = -1 },
		"a Max without HasMax":      func(m *impl.Module) { m.Tables[0].Max = 3 },
		"a name":                    func(m *impl.Module) { m.Exports[4].Name = "\xff" },
		"a kind":                    func(m *impl.Module) { m.Exports[4].Kind = 4 },
		"a list that is not closed": func(m *impl.Module) { m.Globals[2].Init = asm("i32.const") },
		"an empty list":             func(m *impl.Module) { m.Datas[2].Offset = nil },
		"an opcode":                 func(m *impl.Module) { m.Codes[2].Body = []impl.Ins{{Op: 6}, {Op: 0x0b}} },
		"a field":                   func(m *impl.Module) { m.Codes[2].Body = []impl.Ins{{Op: 0x0b, A: 1}} },
		"a code too few":            func(m *impl.Module) { m.Codes = m.Codes[:2] },
		"groups":                    func(m *impl.Module) { m.Codes[2].Locals = []impl.Group{{N: 1 << 32, Type: 0x7f}} },
		"a custom":                  func(m *impl.Module) { m.Customs = []impl.Custom{{After: 12}} },
	}
	for name, do := range spoils {
		for _, f := range append(importFlaws(), flaw{"nothing", func(*impl.Module) {}, form}) {
			m := soundModule()
			f.do(&m)
			do(&m)
			checkModule(t, name+" and "+f.name, m, form)
			if got := impl.StackAt(m, 0, 0); !same(got, impl.StackRes{}) {
				t.Errorf("%s: %+v", name, got)
			}
		}
	}
	for _, m := range []impl.Module{{Start: 1}, {Codes: []impl.Code{{Body: asm("end")}}}, {Funcs: []int64{0}}} {
		checkModule(t, "not well formed", m, form)
	}
}

func TestLimitsOfModules(t *testing.T) {
	rows := []struct {
		lim         impl.Limits
		table, memo int64
	}{
		{impl.Limits{}, 0, 0},
		{impl.Limits{HasMax: true}, 0, 0},
		{impl.Limits{Min: 1}, 0, 0},
		{impl.Limits{Min: 1, Max: 1, HasMax: true}, 0, 0},
		{impl.Limits{Min: 1, Max: 2, HasMax: true}, 0, 0},
		{impl.Limits{Min: 1, HasMax: true}, impl.VaLimits, impl.VaLimits},
		{impl.Limits{Min: 2, Max: 1, HasMax: true}, impl.VaLimits, impl.VaLimits},
		{impl.Limits{Min: 65535}, 0, 0},
		{impl.Limits{Min: 65536}, 0, 0},
		{impl.Limits{Min: 65537}, 0, impl.VaLimits},
		{impl.Limits{Min: 65536, Max: 65536, HasMax: true}, 0, 0},
		{impl.Limits{Max: 65536, HasMax: true}, 0, 0},
		{impl.Limits{Max: 65537, HasMax: true}, 0, impl.VaLimits},
		{impl.Limits{Min: 65537, Max: 65537, HasMax: true}, 0, impl.VaLimits},
		{impl.Limits{Min: 65536, Max: 65537, HasMax: true}, 0, impl.VaLimits},
		{impl.Limits{Min: 65537, Max: 65536, HasMax: true}, impl.VaLimits, impl.VaLimits},
		{impl.Limits{Min: math.MaxUint32}, 0, impl.VaLimits},
		{impl.Limits{Max: math.MaxUint32, HasMax: true}, 0, impl.VaLimits},
		{impl.Limits{Min: math.MaxUint32, Max: math.MaxUint32, HasMax: true}, 0, impl.VaLimits},
		{impl.Limits{Min: math.MaxUint32, Max: math.MaxUint32 - 1, HasMax: true}, impl.VaLimits, impl.VaLimits},
	}
	at := func(err, section int64) impl.ValRes {
		if err == 0 {
			return impl.ValRes{}
		}
		return impl.ValRes{Err: err, Section: section}
	}
	for _, r := range rows {
		checkModule(t, r, impl.Module{Tables: []impl.Limits{r.lim}}, at(r.table, 4))
		checkModule(t, r, impl.Module{Mems: []impl.Limits{r.lim}}, at(r.memo, 5))
		checkModule(t, r, impl.Module{Imports: []impl.Import{tableImport(r.lim)}}, at(r.table, 2))
		checkModule(t, r, impl.Module{Imports: []impl.Import{memImport(r.lim)}}, at(r.memo, 2))
	}
}

func TestOneTableAndOneMemory(t *testing.T) {
	var ok, bad impl.Limits = impl.Limits{}, badLimits()
	table, mem := tableImport(ok), memImport(ok)
	rows := []struct {
		m    impl.Module
		want impl.ValRes
	}{
		{impl.Module{Tables: []impl.Limits{ok}, Mems: []impl.Limits{ok}}, impl.ValRes{}},
		{impl.Module{Imports: []impl.Import{table, mem}}, impl.ValRes{}},
		{impl.Module{Imports: []impl.Import{mem}, Tables: []impl.Limits{ok}}, impl.ValRes{}},
		{impl.Module{Imports: []impl.Import{table}, Mems: []impl.Limits{ok}}, impl.ValRes{}},
		{impl.Module{Tables: []impl.Limits{ok, ok}}, impl.ValRes{Err: impl.VaMany, Section: 4, Index: 1}},
		{impl.Module{Mems: []impl.Limits{ok, ok}}, impl.ValRes{Err: impl.VaMany, Section: 5, Index: 1}},
		{impl.Module{Tables: []impl.Limits{ok, ok, bad}}, impl.ValRes{Err: impl.VaMany, Section: 4, Index: 1}},
		{impl.Module{Tables: []impl.Limits{bad, ok}}, impl.ValRes{Err: impl.VaLimits, Section: 4}},
		{impl.Module{Tables: []impl.Limits{ok, bad}}, impl.ValRes{Err: impl.VaLimits, Section: 4, Index: 1}},
		{impl.Module{Imports: []impl.Import{table}, Tables: []impl.Limits{ok}}, impl.ValRes{Err: impl.VaMany, Section: 4}},
		{impl.Module{Imports: []impl.Import{table}, Tables: []impl.Limits{bad}}, impl.ValRes{Err: impl.VaLimits, Section: 4}},
		{impl.Module{Imports: []impl.Import{mem}, Mems: []impl.Limits{ok}}, impl.ValRes{Err: impl.VaMany, Section: 5}},
		{impl.Module{Imports: []impl.Import{mem}, Mems: []impl.Limits{bad}}, impl.ValRes{Err: impl.VaLimits, Section: 5}},
		{impl.Module{Imports: []impl.Import{mem, table}, Tables: []impl.Limits{ok}, Mems: []impl.Limits{bad}}, impl.ValRes{Err: impl.VaMany, Section: 4}},
		{impl.Module{Imports: []impl.Import{table, table}}, impl.ValRes{Err: impl.VaMany, Section: 2, Index: 1}},
		{impl.Module{Imports: []impl.Import{mem, table, mem, table}}, impl.ValRes{Err: impl.VaMany, Section: 2, Index: 2}},
		{impl.Module{Imports: []impl.Import{mem, memImport(bad)}}, impl.ValRes{Err: impl.VaLimits, Section: 2, Index: 1}},
		{impl.Module{Imports: []impl.Import{mem, mem, memImport(bad)}}, impl.ValRes{Err: impl.VaMany, Section: 2, Index: 1}},
		{impl.Module{Imports: []impl.Import{mem, mem}, Funcs: []int64{0}, Codes: []impl.Code{{Body: asm("end")}}}, impl.ValRes{Err: impl.VaMany, Section: 2, Index: 1}},
	}
	for i, r := range rows {
		checkModule(t, i, r.m, r.want)
	}
}

func TestGlobalsOfEveryType(t *testing.T) {
	for _, ty := range valueTypes() {
		for _, other := range valueTypes() {
			err := int64(0)
			if ty != other {
				err = impl.VaType
			}
			for _, mut := range []bool{false, true} {
				m := soundModule()
				want := impl.ValRes{Err: err, Section: 6 * min(err, 1), Index: 2 * min(err, 1), Pos: min(err, 1)}
				m.Globals[2] = impl.Global{Type: impl.GlobalType{Type: ty, Mut: mut}, Init: append(consts(letters([]int64{other})), ins(0x0b))}
				checkModule(t, []int64{ty, other}, m, want)
				m.Imports[3].Global.Type = other
				m.Globals[1].Type.Type = other
				m.Globals[2].Init = asm("global.get 2; end")
				checkModule(t, []int64{ty, other}, m, want)
			}
		}
	}
}

func TestGlobalsNameImportedOnesAlone(t *testing.T) {
	for own := range 3 {
		for index := range int64(8) {
			m := soundModule()
			m.Globals[own] = impl.Global{Type: impl.GlobalType{Type: 0x7f}, Init: []impl.Ins{{Op: 0x23, A: index}, ins(0x0b)}}
			want := impl.ValRes{Err: impl.VaIndex, Section: 6, Index: int64(own)}
			switch index {
			case 0:
				want = impl.ValRes{}
			case 1:
				want.Err = impl.VaConst
			case 2:
				want.Err, want.Pos = impl.VaType, 1
			}
			checkModule(t, []any{own, index}, m, want)
		}
	}
}

func TestExportsOfEveryKind(t *testing.T) {
	last := []int64{4, 0, 0, 5}
	for kind := range int64(4) {
		for _, index := range []int64{0, last[kind], last[kind] + 1, last[kind] + 2, math.MaxUint32} {
			m := soundModule()
			m.Exports = append(m.Exports, impl.Export{Name: "more", Kind: kind, Index: index})
			want := impl.ValRes{}
			if index > last[kind] {
				want = impl.ValRes{Err: impl.VaIndex, Section: 7, Index: 5}
			}
			checkModule(t, m.Exports[5], m, want)
			m.Exports[5].Name = "t"
			checkModule(t, m.Exports[5], m, impl.ValRes{Err: impl.VaName, Section: 7, Index: 5})
			checkModule(t, "alone", impl.Module{Exports: []impl.Export{{Kind: kind}}}, impl.ValRes{Err: impl.VaIndex, Section: 7})
		}
	}
	imported := impl.Module{Types: []impl.FuncType{{}}, Imports: []impl.Import{{}, {Kind: 1}, {Kind: 2}, {Kind: 3, Global: impl.GlobalType{Type: 0x7f, Mut: true}}}}
	for kind := range int64(4) {
		imported.Exports = []impl.Export{{Kind: kind}}
		checkModule(t, kind, imported, impl.ValRes{})
		imported.Exports = append(imported.Exports, impl.Export{Kind: (kind + 1) % 4, Index: 1})
		checkModule(t, kind, imported, impl.ValRes{Err: impl.VaName, Section: 7, Index: 1})
		imported.Exports[1].Name = "\x00"
		checkModule(t, kind, imported, impl.ValRes{Err: impl.VaIndex, Section: 7, Index: 1})
	}
}

func TestManyExports(t *testing.T) {
	m := impl.Module{Mems: []impl.Limits{{}}}
	for i := range 5000 {
		m.Exports = append(m.Exports, impl.Export{Name: strconv.Itoa(i), Kind: 2})
	}
	if got := impl.Validate(m); got != (impl.ValRes{}) {
		t.Errorf("many exports: %+v", got)
	}
	m.Exports = append(m.Exports, impl.Export{Name: "4999", Kind: 2})
	if got := impl.Validate(m); got != (impl.ValRes{Err: impl.VaName, Section: 7, Index: 5000}) {
		t.Errorf("one twice: %+v", got)
	}
}

func TestStarts(t *testing.T) {
	m := soundModule()
	wants := []int64{impl.VaType, impl.VaType, 0, impl.VaType, 0, impl.VaIndex, impl.VaIndex}
	for start, err := range wants {
		m.Start = int64(start)
		checkModule(t, start, m, impl.ValRes{Err: err, Section: 8 * min(err, 1)})
	}
	m.Imports[0].Type, m.Start, m.Codes[1].Body = 0, 0, asm("end")
	checkModule(t, "an imported one", m, impl.ValRes{})
	checkModule(t, "none", impl.Module{HasStart: true}, impl.ValRes{Err: impl.VaIndex, Section: 8})
	m.HasStart = false
	checkModule(t, "without", m, impl.ValRes{})
}

func TestSegmentsOfImportedOnes(t *testing.T) {
	m := soundModule()
	noTable(&m)
	noMemory(&m)
	m.Imports = append(m.Imports, tableImport(impl.Limits{}), memImport(impl.Limits{}))
	checkModule(t, "imported table and memory", m, impl.ValRes{})
	m.Imports = m.Imports[:6]
	checkModule(t, "imported table", m, impl.ValRes{Err: impl.VaIndex, Section: 11})
	m.Datas = nil
	checkModule(t, "without data", m, impl.ValRes{})
	m.Imports = m.Imports[:5]
	checkModule(t, "nothing imported", m, impl.ValRes{Err: impl.VaIndex, Section: 9})
	m.Elems = nil
	checkModule(t, "without segments", m, impl.ValRes{})
}
