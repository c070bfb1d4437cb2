package tests

import (
	"bytes"
	"fmt"
	"slices"
	"strings"
	"testing"

	"loop.example/s00119/impl"
)

// moduleOf reads the lines of a module, with a semicolon between.
func moduleOf(lines string) impl.Module {
	x := impl.ParseText([]byte(strings.ReplaceAll(lines, "; ", "\n") + "\n"))
	if x.Line != 0 {
		panic(fmt.Sprint("line ", x.Line, " of ", lines))
	}
	return x.Module
}

func extern(kind, addr int64) impl.Extern { return impl.Extern{Kind: kind, Addr: addr} }

// linked is the store behind an Instantiate that has to go well.
func linked(t *testing.T, s impl.Store, m impl.Module, with ...impl.Extern) impl.Store {
	t.Helper()
	r := checkLink(t, "linked", s, m, with)
	if r.Err != impl.LkOk {
		t.Fatalf("Err %d, Trap %d", r.Err, r.Trap)
	}
	return r.Store
}

const (
	libraryBody = `type i32 -> i64; type ->; type i32 ->; import "h" "out" func 2; func 0; func 1; table 3 5; memory 1; ` +
		`global i32 var; i32.const -1; end; global f64 const; f64.const 0x7ff8000000000001; end; ` +
		`export "f" func 1; export "o" func 0; export "t" table 0; export "m" memory 0; export "g" global 0; export "c" global 1; ` +
		`elem 2 0; i32.const 1; end; code 2 f32 0 i32 1 f64; local.get 0; i64.extend_i32_s; end; code; i32.const 1; br_table 0 0; end; data "abc"; i32.const 65533; end`
	userBody = `type f64 -> f64; type i32 -> i64; import "" "" memory 1; import "" "" func 1; import "" "" global f64 const; import "" "" table 3 5; import "" "" global i32 var; ` +
		`func 0; global f64 var; global.get 0; end; global i64 const; i64.const -2; end; ` +
		`export "own" func 1; export "again" func 0; export "t" table 0; export "m" memory 0; export "c" global 0; export "d" global 2; export "e" global 3; ` +
		`elem 1; i32.const 0; end; elem 0 0; i32.const 1; end; code; local.get 0; global.get 2; f64.add; end; data "\00Z"; i32.const 65534; end`
)

func libraryStore() impl.Store {
	data := pagesOf(1)
	copy(data[65533:], "abc")
	return impl.Store{
		Funcs: append(hostRows(),
			impl.FuncInst{Type: funcType("i32 -> i64"), Locals: typesOf("ffF"), Body: asm("local.get 0; i64.extend_i32_s; end")},
			impl.FuncInst{Body: asm("i32.const 1; br_table 0 0; end")},
		),
		Tables:  []impl.TableInst{{Lim: limitsTo(3, 5), Elems: []int64{-1, 5, 0}}},
		Mems:    []impl.MemInst{{Lim: limits(1), Data: data}},
		Globals: []impl.GlobalInst{globalOf("i32", true, 1<<32-1), globalOf("f64", false, 0x7ff8000000000001)},
		Insts: []impl.Instance{{
			Types: []impl.FuncType{funcType("i32 -> i64"), funcType("->"), funcType("i32 ->")},
			Funcs: []int64{0, 4, 5}, Tables: []int64{0}, Mems: []int64{0}, Globals: []int64{0, 1},
			Exports: []impl.Export{{Name: "f", Index: 4}, {Name: "o", Index: 0}, {Name: "t", Kind: 1}, {Name: "m", Kind: 2}, {Name: "g", Kind: 3}, {Name: "c", Kind: 3, Index: 1}},
		}},
	}
}

func userStore() impl.Store {
	s := libraryStore()
	s.Funcs = append(s.Funcs, impl.FuncInst{Type: funcType("f64 -> f64"), Inst: 1, Body: asm("local.get 0; global.get 2; f64.add; end")})
	s.Tables[0].Elems = []int64{6, 4, 4}
	copy(s.Mems[0].Data[65534:], "\x00Z")
	s.Globals = append(s.Globals, globalOf("f64", true, 0x7ff8000000000001), globalOf("i64", false, 1<<64-2))
	s.Insts = append(s.Insts, impl.Instance{
		Types: []impl.FuncType{funcType("f64 -> f64"), funcType("i32 -> i64")},
		Funcs: []int64{4, 6}, Tables: []int64{0}, Mems: []int64{0}, Globals: []int64{1, 0, 2, 3},
		Exports: []impl.Export{
			{Name: "own", Index: 6}, {Name: "again", Index: 4}, {Name: "t", Kind: 1}, {Name: "m", Kind: 2}, {Name: "c", Kind: 3, Index: 1},
			{Name: "d", Kind: 3, Index: 2}, {Name: "e", Kind: 3, Index: 3},
		},
	})
	return s
}

// TestLinkWhole has two instances field by field; the second shares the first
// one's table, memory and globals.
func TestLinkWhole(t *testing.T) {
	first := checkLink(t, "library", impl.StoreNew(), moduleOf(libraryBody), []impl.Extern{extern(0, 0)})
	if !same(first, impl.InstRes{Store: libraryStore()}) {
		t.Fatalf("library: Err %d: %+v", first.Err, shown(first.Store))
	}
	with := []impl.Extern{extern(2, 0), extern(0, 4), extern(3, 1), extern(1, 0), extern(3, 0)}
	second := checkLink(t, "user", first.Store, moduleOf(userBody), with)
	if !same(second, impl.InstRes{Index: 1, Store: userStore()}) {
		t.Fatalf("user: Err %d: %+v", second.Err, shown(second.Store))
	}
	if !same(first.Store, libraryStore()) {
		t.Errorf("the store that was given is changed")
	}
	s := fullStore()
	third := checkLink(t, "nothing", s, impl.Module{}, nil)
	s.Insts = append(s.Insts, impl.Instance{})
	if !same(third, impl.InstRes{Index: 2, Store: s}) {
		t.Errorf("nothing: Err %d: %+v", third.Err, shown(third.Store))
	}
}

func TestLinkIsNewMemory(t *testing.T) {
	s, lib, use := impl.StoreNew(), moduleOf(libraryBody), moduleOf(userBody)
	with := []impl.Extern{extern(2, 0), extern(0, 4), extern(3, 1), extern(1, 0), extern(3, 0)}
	first := impl.Instantiate(s, lib, []impl.Extern{extern(0, 0)})
	second := impl.Instantiate(first.Store, use, with)
	third := impl.Instantiate(first.Store, use, with)
	short := impl.Instantiate(first.Store, use, with[1:])
	use.Datas[0].Offset[0].V++
	trap := impl.Instantiate(first.Store, use, with)
	full := fullStore()
	checkApart(t, s, lib, use, with, first, second, third, short, trap, full, impl.Instantiate(full, impl.Module{}, nil), impl.Instantiate(full, lib, nil))
	if short.Err != impl.LkCount || trap.Err != impl.LkTrap {
		t.Errorf("Err %d, %d", short.Err, trap.Err)
	}
	clear(second.Store.Mems[0].Data)
	clear(second.Store.Tables[0].Elems)
	clear(second.Store.Funcs)
	for _, r := range []impl.InstRes{first, short, trap} {
		if !same(r.Store, libraryStore()) {
			t.Errorf("an answer hangs on another one")
		}
	}
	if !same(third.Store, userStore()) {
		t.Errorf("an answer hangs on another one")
	}
}

// linkCase is an instance that can be made, as userBody in the store of
// libraryBody; each of the spoils breaks one thing of it.
type linkCase struct {
	s    impl.Store
	m    impl.Module
	with []impl.Extern
}

func newLinkCase() linkCase {
	return linkCase{libraryStore(), moduleOf(userBody), []impl.Extern{extern(2, 0), extern(0, 4), extern(3, 1), extern(1, 0), extern(3, 0)}}
}

// linkSpoils has ways to each Err, in their order; LkKind's are at the first
// import, LkType's behind it.
func linkSpoils() [][]func(c *linkCase) {
	return [][]func(c *linkCase){
		{
			func(c *linkCase) { c.s.In = []uint64{1 << 32} },
			func(c *linkCase) { c.s.Funcs[4].Body = asm("drop; end") },
			func(c *linkCase) { c.s.Insts[0].Exports[0].Kind = 4 },
			func(c *linkCase) { c.s.Tables[0].Elems[0] = 700 },
		},
		{
			func(c *linkCase) { c.m.Exports[0].Name = "t" },
			func(c *linkCase) { c.m.Codes[0].Body = asm("drop; end") },
			func(c *linkCase) { c.m.Codes[0].Locals = []impl.Group{{N: 1000, Type: 0x7f}} },
			func(c *linkCase) { c.m.Codes[0].Locals = []impl.Group{{N: 1<<32 - 1, Type: 0x7f}} },
			func(c *linkCase) { c.m.Customs = []impl.Custom{{Name: "\xff"}} },
			func(c *linkCase) { c.m.Codes = append(c.m.Codes, impl.Code{Body: asm("end")}) },
		},
		{
			func(c *linkCase) { c.with = c.with[:4] },
			func(c *linkCase) { c.with = nil },
			func(c *linkCase) { c.with = append(c.with, extern(3, 0)) },
		},
		{
			func(c *linkCase) { c.with[0].Kind = 1 },
			func(c *linkCase) { c.with[0].Kind = -1 },
			func(c *linkCase) { c.with[0].Kind = 4 },
			func(c *linkCase) { c.with[0].Addr = 1 },
			func(c *linkCase) { c.with[0].Addr = -1 },
			func(c *linkCase) { c.with[0].Addr = -1 << 63 },
		},
		{
			func(c *linkCase) { c.with[1] = extern(0, 0) },
			func(c *linkCase) { c.with[2] = extern(3, 0) },
			func(c *linkCase) { c.m.Imports[3].Lim.Min = 4 },
			func(c *linkCase) { c.m.Imports[3].Lim.Max = 4 },
		},
		{
			func(c *linkCase) { filledTo(&c.s.Funcs, 500, c.s.Funcs[4]) },
			func(c *linkCase) { filledTo(&c.s.Globals, 499, c.s.Globals[0]) },
			func(c *linkCase) { filledTo(&c.s.Insts, 20, impl.Instance{}) },
		},
		{
			func(c *linkCase) { c.m.Elems[0].Offset[0].V = 3 },
			func(c *linkCase) { c.m.Datas[0].Offset[0].V = 65535 },
			func(c *linkCase) { c.m.Elems[1].Offset[0].V = 1<<32 - 1 },
		},
	}
}

// TestLinkErrs has each cause alone, and each beside each cause that comes
// later.
func TestLinkErrs(t *testing.T) {
	spoils := linkSpoils()
	for i, ways := range spoils {
		for a, way := range ways {
			c := newLinkCase()
			way(&c)
			if r := checkLink(t, fmt.Sprint(i+1, " by ", a), c.s, c.m, c.with); r.Err != int64(i+1) {
				t.Errorf("%d by %d: Err %d", i+1, a, r.Err)
			}
			for j := i + 1; j < len(spoils); j++ {
				for b, later := range spoils[j] {
					c := newLinkCase()
					later(&c)
					way(&c)
					what := fmt.Sprint(i+1, " by ", a, ", ", j+1, " by ", b)
					if i == 2 && len(c.with) < 5 && a == 2 {
						continue
					}
					if r := checkLink(t, what, c.s, c.m, c.with); r.Err != int64(i+1) {
						t.Errorf("%s: Err %d", what, r.Err)
					}
				}
			}
		}
	}
}

// TestLinkOneAfterTheOther has a wrong kind and a wrong type at two imports.
func TestLinkOneAfterTheOther(t *testing.T) {
	m := moduleOf(`type i32 ->; import "" "" func 0; import "" "" func 0; import "" "" func 0`)
	kind, other, right := extern(3, 0), extern(0, 1), extern(0, 0)
	for _, row := range []struct {
		with []impl.Extern
		err  int64
	}{
		{[]impl.Extern{kind, other, right}, impl.LkKind},
		{[]impl.Extern{other, kind, right}, impl.LkType},
		{[]impl.Extern{right, other, kind}, impl.LkType},
		{[]impl.Extern{right, extern(0, 4), other}, impl.LkKind},
		{[]impl.Extern{other, extern(0, 4), right}, impl.LkType},
		{[]impl.Extern{right, right, kind}, impl.LkKind},
		{[]impl.Extern{right, right, other}, impl.LkType},
		{[]impl.Extern{right, right, right}, impl.LkOk},
	} {
		if r := checkLink(t, row, impl.StoreNew(), m, row.with); r.Err != row.err {
			t.Errorf("%v: %d", row, r.Err)
		}
	}
}

// importOne is a module with one import.
func importOne(x impl.Import) impl.Module {
	return impl.Module{Types: []impl.FuncType{funcType("i32 -> i64")}, Imports: []impl.Import{x}}
}

func TestLinkKinds(t *testing.T) {
	s := fullStore()
	s.Funcs = s.Funcs[:5]
	s.Tables[0].Elems = nil
	s.Tables[0].Lim = limits(0)
	s.Insts = []impl.Instance{{}}
	sizes := []int64{5, 2, 2, 4}
	fitting := []impl.Extern{extern(0, 4), extern(1, 1), extern(2, 1), extern(3, 1)}
	wants := []impl.Import{{}, {Kind: 1}, {Kind: 2}, {Kind: 3, Global: impl.GlobalType{Type: 0x7c}}}
	for kind, want := range wants {
		if r := checkLink(t, want, s, importOne(want), fitting[kind:kind+1]); r.Err != impl.LkOk {
			t.Errorf("kind %d: Err %d", kind, r.Err)
		}
		for other := int64(-2); other < 7; other++ {
			for _, addr := range []int64{-1 << 63, -1, 0, 1, 3, 4, 5, 1 << 32, 1<<63 - 1} {
				with := extern(other, addr)
				r := checkLink(t, with, s, importOne(want), []impl.Extern{with})
				isKind := other == int64(kind) && addr >= 0 && addr < sizes[kind]
				if isKind == (r.Err == impl.LkKind) {
					t.Errorf("kind %d with %v: Err %d", kind, with, r.Err)
				}
			}
		}
	}
}

// fitRow is an import and what may or may not stand for it.
type fitRow struct {
	want impl.Import
	with impl.Extern
	fits bool
}

func checkFits(t *testing.T, s impl.Store, rows []fitRow) {
	t.Helper()
	for _, row := range rows {
		r := checkLink(t, row, s, importOne(row.want), []impl.Extern{row.with})
		if row.fits != (r.Err == impl.LkOk) || !row.fits && r.Err != impl.LkType {
			t.Errorf("%+v: Err %d", row, r.Err)
		}
	}
}

func TestLinkLimits(t *testing.T) {
	const top = 1<<32 - 1
	s := fullStore()
	s.Tables = append(s.Tables, impl.TableInst{Lim: limits(1), Elems: []int64{-1, -1}}, impl.TableInst{Lim: limitsTo(0, 0)})
	s.Mems = append(s.Mems, impl.MemInst{Lim: limits(1), Data: pagesOf(2)}, impl.MemInst{Lim: limitsTo(0, 0)}, impl.MemInst{Lim: limitsTo(0, 1<<20)})
	table := func(l impl.Limits, addr int64, fits bool) fitRow {
		return fitRow{impl.Import{Kind: 1, Lim: l}, extern(1, addr), fits}
	}
	memory := func(l impl.Limits, addr int64, fits bool) fitRow {
		return fitRow{impl.Import{Kind: 2, Lim: l}, extern(2, addr), fits}
	}
	// Table 0 has four entries, of 2 to 7; memory 0 two pages, of 1 to 3.
	checkFits(t, s, []fitRow{
		table(limits(0), 0, true), table(limits(2), 0, true), table(limits(3), 0, true), table(limits(4), 0, true), table(limits(5), 0, false),
		table(limits(7), 0, false), table(limits(top), 0, false),
		table(limitsTo(4, 7), 0, true), table(limitsTo(4, 6), 0, false), table(limitsTo(4, 8), 0, true), table(limitsTo(0, top), 0, true),
		table(limitsTo(5, 7), 0, false), table(limitsTo(0, 0), 0, false), table(limitsTo(4, 4), 0, false),
		table(limits(2), 2, true), table(limits(3), 2, false), table(limitsTo(2, top), 2, false), table(limitsTo(0, 2), 2, false),
		table(limits(0), 3, true), table(limits(1), 3, false), table(limitsTo(0, 0), 3, true), table(limitsTo(0, 1), 3, true),
		memory(limits(0), 0, true), memory(limits(1), 0, true), memory(limits(2), 0, true), memory(limits(3), 0, false), memory(limits(65536), 0, false),
		memory(limitsTo(2, 3), 0, true), memory(limitsTo(2, 2), 0, false), memory(limitsTo(2, 4), 0, true), memory(limitsTo(0, 65536), 0, true),
		memory(limitsTo(3, 3), 0, false), memory(limitsTo(0, 0), 0, false),
		memory(limits(2), 2, true), memory(limits(3), 2, false), memory(limitsTo(2, 65536), 2, false),
		memory(limitsTo(0, 0), 3, true), memory(limits(1), 3, false), memory(limitsTo(0, 65536), 4, false), memory(limits(0), 4, true),
	})
}

func TestLinkTypes(t *testing.T) {
	s := fullStore()
	types := []string{"->", "i32 ->", "i64 ->", "-> i32", "-> i64", "i32 -> i64", "i64 -> i32", "i32 i32 -> i64", "f64 -> f64", "f32 -> f64", "f64 -> f32"}
	for addr, f := range s.Funcs {
		for _, ty := range types {
			m := importOne(impl.Import{})
			m.Types[0] = funcType(ty)
			r := checkLink(t, ty, s, m, []impl.Extern{extern(0, int64(addr))})
			if same(f.Type, funcType(ty)) != (r.Err == impl.LkOk) || r.Err != impl.LkOk && r.Err != impl.LkType {
				t.Errorf("function %d for %s: Err %d", addr, ty, r.Err)
			}
		}
	}
	var rows []fitRow
	for addr, g := range s.Globals {
		for _, ty := range valueTypes() {
			for _, mut := range []bool{false, true} {
				fits := g.Type.Type == ty && g.Type.Mut == mut
				rows = append(rows, fitRow{impl.Import{Kind: 3, Global: impl.GlobalType{Type: ty, Mut: mut}}, extern(3, int64(addr)), fits})
			}
		}
	}
	checkFits(t, s, rows)
}

// TestLinkRoom has stores that are just not full, and just full.
func TestLinkRoom(t *testing.T) {
	fill := map[string]func(s *impl.Store, left int){
		"func": func(s *impl.Store, left int) {
			s.Insts = []impl.Instance{{}}
			filledTo(&s.Funcs, 500-left, impl.FuncInst{Body: asm("end")})
		},
		"table":  func(s *impl.Store, left int) { filledTo(&s.Tables, 20-left, impl.TableInst{}) },
		"memory": func(s *impl.Store, left int) { filledTo(&s.Mems, 20-left, impl.MemInst{}) },
		"global": func(s *impl.Store, left int) { filledTo(&s.Globals, 500-left, globalOf("i32", false, 3)) },
		"inst":   func(s *impl.Store, left int) { filledTo(&s.Insts, 20-left, impl.Instance{}) },
	}
	for _, row := range []struct {
		list  string
		left  int
		lines string
		err   int64
	}{
		{"func", 2, "type ->; func 0; func 0; code; end; code; end", 0}, {"func", 1, "type ->; func 0; func 0; code; end; code; end", 6},
		{"func", 0, "type ->; func 0; code; end", 6}, {"func", 0, `table 0; memory 0; global i32 var; i32.const 0; end`, 0},
		{"func", 1, "type ->; func 0; code; end", 0},
		{"table", 1, "table 0", 0}, {"table", 0, "table 0", 6}, {"table", 0, "memory 0", 0},
		{"memory", 1, "memory 0", 0}, {"memory", 0, "memory 0", 6}, {"memory", 0, "table 0", 0},
		{"global", 1, "global i32 var; i32.const 0; end", 0}, {"global", 0, "global i32 var; i32.const 0; end", 6},
		{"global", 2, "global i32 var; i32.const 0; end; global i32 var; i32.const 0; end", 0},
		{"global", 1, "global i32 var; i32.const 0; end; global i32 var; i32.const 0; end", 6},
		{"inst", 1, "type ->", 0}, {"inst", 0, "type ->", 6},
		{"inst", 5, "table 1000", 0}, {"inst", 5, "table 1001", 6}, {"inst", 5, "table 1000 4294967295", 0}, {"inst", 5, "table 1001 1001", 6},
		{"inst", 5, "table 4294967295", 6}, {"inst", 5, "table 0 1001", 0},
		{"inst", 5, "memory 4", 0}, {"inst", 5, "memory 5", 6}, {"inst", 5, "memory 4 65536", 0}, {"inst", 5, "memory 5 5", 6}, {"inst", 5, "memory 65536", 6},
		{"inst", 5, "memory 0 5", 0},
	} {
		s := impl.StoreNew()
		fill[row.list](&s, row.left)
		if r := checkLink(t, row, s, moduleOf(row.lines), nil); r.Err != row.err {
			t.Errorf("%+v: Err %d", row, r.Err)
		}
	}
	// What is imported takes no room.
	s := fullStore()
	for _, list := range []string{"table", "memory", "global"} {
		fill[list](&s, 0)
	}
	m := moduleOf(`type i32 ->; import "" "" func 0; import "" "" table 0; import "" "" memory 0; import "" "" global i32 var`)
	linked(t, s, m, extern(0, 0), extern(1, 0), extern(2, 0), extern(3, 2))
}

// TestLinkManyLocals has parameters and locals at LocalsMax and beyond it.
func TestLinkManyLocals(t *testing.T) {
	for _, row := range []struct {
		params int
		groups []impl.Group
		err    int64
	}{
		{1000, nil, 0}, {1001, nil, 2}, {0, []impl.Group{{N: 1000, Type: 0x7e}}, 0}, {0, []impl.Group{{N: 1001, Type: 0x7e}}, 2},
		{600, []impl.Group{{N: 100, Type: 0x7e}, {N: 0, Type: 0x7d}, {N: 300, Type: 0x7c}}, 0}, {601, []impl.Group{{N: 100, Type: 0x7e}, {N: 300, Type: 0x7c}}, 2},
		{999, []impl.Group{{N: 1, Type: 0x7e}}, 0}, {1000, []impl.Group{{N: 1, Type: 0x7e}}, 2}, {1, []impl.Group{{N: 1<<32 - 1, Type: 0x7e}}, 2},
	} {
		m := oneCode(row.groups, asm("end")...)
		m.Types = []impl.FuncType{{Params: slices.Repeat([]int64{0x7f}, row.params)}}
		if r := checkLink(t, row, impl.StoreNew(), m, nil); r.Err != row.err {
			t.Errorf("%+v: Err %d", row, r.Err)
		}
	}
	m := moduleOf("type ->; func 0; func 0; code; end; code 1001 i32; end")
	if r := checkLink(t, "the second one", impl.StoreNew(), m, nil); r.Err != impl.LkModule {
		t.Errorf("the second one: Err %d", r.Err)
	}
	linked(t, impl.StoreNew(), impl.Module{Types: []impl.FuncType{{Params: slices.Repeat([]int64{0x7f}, 1001)}}})
}

// segment is one of elements or data: n entries at an offset.
type segment struct {
	kind   int64
	offset uint64
	n      int
}

// withSegments is a module with a table and a memory and these segments; their
// entries are functions 0, 1, 2.. and bytes 1, 2, 3.. counted on over all.
func withSegments(head string, list []segment) impl.Module {
	m := moduleOf(head)
	var funcs, bytes int
	for _, x := range list {
		offset := []impl.Ins{{Op: 0x41, V: x.offset}, ins(0x0b)}
		if x.kind == 1 {
			e := impl.Elem{Offset: offset}
			for range x.n {
				e.Funcs = append(e.Funcs, int64(funcs%3))
				funcs++
			}
			m.Elems = append(m.Elems, e)
			continue
		}
		d := impl.Data{Offset: offset}
		for range x.n {
			bytes++
			d.Bytes = append(d.Bytes, byte(bytes))
		}
		m.Datas = append(m.Datas, d)
	}
	return m
}

func TestLinkSegments(t *testing.T) {
	const page, top = 65536, 1<<32 - 1
	types := `type i32 ->; type i64 ->; type ->; import "" "" func 1; import "" "" func 2; import "" "" func 0`
	heads := map[string][]impl.Extern{
		types + "; table 4; memory 1":                           nil,
		types + "; table 4 9; memory 1 2":                       nil,
		types + `; import "" "" table 2; import "" "" memory 1`: {extern(1, 0), extern(2, 0)},
	}
	s := fullStore()
	s.Mems[0] = impl.MemInst{Lim: limits(0), Data: bytes.Repeat([]byte{9}, page)}
	with := []impl.Extern{extern(0, 1), extern(0, 3), extern(0, 0)}
	for _, row := range []struct {
		list []segment
		trap int64
	}{
		{nil, 0}, {[]segment{{1, 0, 4}}, 0}, {[]segment{{1, 0, 5}}, 6}, {[]segment{{1, 1, 4}}, 6}, {[]segment{{1, 3, 1}}, 0}, {[]segment{{1, 4, 1}}, 6},
		{[]segment{{1, 4, 0}}, 0}, {[]segment{{1, 5, 0}}, 6}, {[]segment{{1, top, 0}}, 6}, {[]segment{{1, top, 1}}, 6}, {[]segment{{1, top - 1, 2}}, 6},
		{[]segment{{1, top, 2}}, 6}, {[]segment{{1, 1 << 31, 1}}, 6},
		{[]segment{{2, 0, 5}}, 0}, {[]segment{{2, page - 5, 5}}, 0}, {[]segment{{2, page - 4, 5}}, 5}, {[]segment{{2, page - 1, 1}}, 0}, {[]segment{{2, page, 1}}, 5},
		{[]segment{{2, page, 0}}, 0}, {[]segment{{2, page + 1, 0}}, 5}, {[]segment{{2, top, 0}}, 5}, {[]segment{{2, top, 1}}, 5}, {[]segment{{2, top, 300}}, 5},
		{[]segment{{2, 0, page}}, 0}, {[]segment{{2, 0, page + 1}}, 5}, {[]segment{{2, 1, page}}, 5},
		{[]segment{{2, page, 1}, {1, 4, 1}}, 6}, {[]segment{{2, page, 1}, {1, 3, 1}}, 5}, {[]segment{{1, 4, 1}, {2, 0, 1}}, 6},
		{[]segment{{1, 0, 3}, {1, 1, 2}, {1, 2, 2}}, 0}, {[]segment{{1, 0, 4}, {1, 0, 4}, {1, 0, 1}}, 0}, {[]segment{{1, 0, 3}, {1, 3, 2}}, 6},
		{[]segment{{2, 0, 9}, {2, 4, 9}, {2, 2, 3}}, 0}, {[]segment{{2, 0, 9}, {2, page - 3, 4}}, 5}, {[]segment{{2, page, 1}, {2, 0, 9}}, 5},
		{[]segment{{1, 4, 0}, {2, page, 0}, {1, 0, 0}}, 0},
	} {
		for head, outer := range heads {
			r := checkLink(t, row, s, withSegments(head, row.list), slices.Concat(with, outer))
			if r.Trap != row.trap || (r.Err == impl.LkTrap) != (row.trap != 0) || r.Err != 0 && r.Err != impl.LkTrap {
				t.Errorf("%v: %s: Err %d, Trap %d", row, head, r.Err, r.Trap)
			}
			if r.Err == impl.LkTrap && !same(r.Store, s) {
				t.Errorf("%v: %s: something is changed", row, head)
			}
		}
	}
}

// TestLinkWrites has what is written where segments lie over one another.
func TestLinkWrites(t *testing.T) {
	head := `type i32 ->; type i64 ->; type ->; import "" "" func 1; import "" "" func 2; import "" "" func 0; table 5; memory 1`
	list := []segment{{1, 0, 3}, {2, 0, 4}, {1, 2, 2}, {2, 3, 3}, {1, 1, 1}, {2, 1, 1}, {1, 5, 0}}
	s := linked(t, impl.StoreNew(), withSegments(head, list), extern(0, 1), extern(0, 3), extern(0, 0))
	if got := s.Tables[0].Elems; !slices.Equal(got, []int64{1, 0, 1, 3, -1}) {
		t.Errorf("elements: %v", got)
	}
	if got := s.Mems[0].Data[:8]; !bytes.Equal(got, []byte{1, 8, 3, 5, 6, 7, 0, 0}) {
		t.Errorf("data: %v", got)
	}
}

// TestLinkOffsetsByGlobals has offsets and values by imported globals, of which
// there are others ahead.
func TestLinkOffsetsByGlobals(t *testing.T) {
	m := moduleOf(`type ->; import "" "" global i64 const; import "" "" func 0; import "" "" global i32 const; ` +
		`table 3; memory 1; global i32 var; global.get 1; end; global i64 const; global.get 0; end; global i32 const; i32.const 5; end; ` +
		`elem 0; global.get 1; end; data "x"; global.get 1; end`)
	for val, trap := range map[uint64]int64{0: 0, 2: 0, 3: 6, 1<<32 - 1: 6, 1 << 31: 6} {
		s := impl.StoreNew()
		s.Globals = []impl.GlobalInst{globalOf("i32", false, 1), globalOf("i64", false, 1<<64-7), globalOf("i32", false, val)}
		r := checkLink(t, val, s, m, []impl.Extern{extern(3, 1), extern(0, 3), extern(3, 2)})
		if r.Trap != trap {
			t.Errorf("at %d: Err %d, Trap %d", val, r.Err, r.Trap)
		}
		if trap != 0 {
			continue
		}
		if got := r.Store.Globals[3:]; !slices.Equal(got, []impl.GlobalInst{globalOf("i32", true, val), globalOf("i64", false, 1<<64-7), globalOf("i32", false, 5)}) {
			t.Errorf("at %d: %v", val, got)
		}
		if r.Store.Tables[0].Elems[val] != 3 || r.Store.Mems[0].Data[val] != 'x' {
			t.Errorf("at %d: nothing is written there", val)
		}
	}
}

// TestLinkShared has three instances with one table, memory and global.
func TestLinkShared(t *testing.T) {
	s := linked(t, impl.StoreNew(), moduleOf(`type ->; func 0; table 3; memory 1; global i32 var; i32.const 7; end; export "t" table 0; elem 0 0 0; i32.const 0; end; code; end`))
	use := moduleOf(`type ->; import "" "" table 3; import "" "" memory 1; import "" "" global i32 var; func 0; export "t" table 0; ` +
		`elem 0; i32.const 1; end; code; i32.const 8; global.set 0; end; data "u"; i32.const 1; end`)
	with := []impl.Extern{extern(1, 0), extern(2, 0), extern(3, 0)}
	one := linked(t, s, use, with...)
	use.Elems[0].Offset[0].V, use.Datas[0].Offset[0].V = 2, 2
	two := linked(t, one, use, with...)
	if len(two.Tables) != 1 || len(two.Mems) != 1 || len(two.Globals) != 1 || len(two.Insts) != 3 {
		t.Errorf("%+v", shown(two))
	}
	if got := two.Tables[0].Elems; !slices.Equal(got, []int64{4, 5, 6}) {
		t.Errorf("elements: %v", got)
	}
	if got := string(two.Mems[0].Data[:4]); got != "\x00uu\x00" {
		t.Errorf("data: %q", got)
	}
	for inst, x := range two.Insts {
		if !slices.Equal(x.Tables, []int64{0}) || !slices.Equal(x.Mems, []int64{0}) || !slices.Equal(x.Globals, []int64{0}) || impl.Find(two, int64(inst), "t") != extern(1, 0) {
			t.Errorf("instance %d: %+v", inst, x)
		}
	}
}

// TestLinkDoesNotStart: the start function is not called.
func TestLinkDoesNotStart(t *testing.T) {
	s := linked(t, impl.StoreNew(), moduleOf(`type ->; func 0; global i32 var; i32.const 0; end; start 0; code; i32.const 1; global.set 0; unreachable; end`))
	if s.Globals[0].Val != 0 || len(s.Out) != 0 {
		t.Errorf("%+v", shown(s))
	}
	linked(t, s, moduleOf(`type ->; import "" "" func 0; start 0`), extern(0, 3))
}

func TestFind(t *testing.T) {
	s := userStore()
	for inst, wants := range []map[string]impl.Extern{
		{"f": extern(0, 4), "o": extern(0, 0), "t": extern(1, 0), "m": extern(2, 0), "g": extern(3, 0), "c": extern(3, 1)},
		{"own": extern(0, 6), "again": extern(0, 4), "t": extern(1, 0), "m": extern(2, 0), "c": extern(3, 1), "d": extern(3, 2), "e": extern(3, 3)},
	} {
		for _, name := range []string{"f", "o", "t", "m", "g", "c", "own", "again", "d", "e", "", "x", "F", "ff", "\xff", "own\x00"} {
			want, is := wants[name]
			if !is {
				want = extern(-1, 0)
			}
			if got := impl.Find(s, int64(inst), name); got != want {
				t.Errorf("%d, %q: %v, want %v", inst, name, got, want)
			}
		}
	}
	for _, inst := range []int64{-1 << 63, -1, 2, 3, 1 << 32, 1<<63 - 1} {
		if got := impl.Find(s, inst, "t"); got != extern(-1, 0) {
			t.Errorf("instance %d: %v", inst, got)
		}
	}
	if got := impl.Find(fullStore(), 0, ""); got != extern(3, 3) {
		t.Errorf("an empty name: %v", got)
	}
	if got := impl.Find(impl.StoreNew(), 0, ""); got != extern(-1, 0) {
		t.Errorf("no instance: %v", got)
	}
	if s.Out = []impl.Told{{Host: 3}}; impl.Find(s, 0, "t") != extern(-1, 0) {
		t.Errorf("a store that is not valid")
	}
	twice := fullStore()
	if twice.Insts[0].Exports[2].Name = "t"; impl.Find(twice, 0, "t") != extern(1, 0) {
		t.Errorf("of two of one name the first")
	}
}
