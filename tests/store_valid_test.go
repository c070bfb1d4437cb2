package tests

import (
	"fmt"
	"slices"
	"testing"

	"loop.example/s00119/impl"
)

func TestStoreNew(t *testing.T) {
	s := impl.StoreNew()
	if !same(s, impl.Store{Funcs: hostRows()}) {
		t.Errorf("%+v", s)
	}
	checkStore(t, "new", s)
	checkApart(t, s, impl.StoreNew())
	s.Funcs[0].Type.Params[0], s.Funcs[2] = 0, impl.FuncInst{}
	if again := impl.StoreNew(); !same(again, impl.Store{Funcs: hostRows()}) {
		t.Errorf("a second one hangs on the first: %+v", again)
	}
}

func TestStoreFull(t *testing.T) {
	s := fullStore()
	if wrong := checkStore(t, "full", s); len(wrong) > 0 {
		t.Errorf("not valid: %v", wrong)
	}
	if !same(s, fullStore()) {
		t.Errorf("the argument was written to")
	}
	if impl.ValidStore(impl.Store{}) {
		t.Errorf("the zero store is valid")
	}
}

// storeRow is a change of fullStore, and the one sentence of the document that
// then does not hold, empty if all do.
type storeRow struct {
	name  string
	do    func(s *impl.Store)
	wrong string
}

func checkStoreRows(t *testing.T, rows []storeRow) {
	t.Helper()
	for _, r := range rows {
		s := fullStore()
		r.do(&s)
		wrong := checkStore(t, r.name, s)
		if r.wrong == "" && len(wrong) > 0 || r.wrong != "" && !slices.Equal(wrong, []string{r.wrong}) {
			t.Errorf("%s: the tests' row breaks %v, not %q alone", r.name, wrong, r.wrong)
		}
		linked := checkLink(t, r.name, s, impl.Module{}, nil)
		if (linked.Err == impl.LkStore) != (r.wrong != "") || r.wrong != "" && impl.Find(s, 0, "f") != extern(-1, 0) {
			t.Errorf("%s: linked with Err %d", r.name, linked.Err)
		}
	}
}

func TestStoreHosts(t *testing.T) {
	rows := []storeRow{
		{"three alone", func(s *impl.Store) { *s = impl.Store{Funcs: hostRows()[:3]} }, "hosts"},
		{"none", func(s *impl.Store) { *s = impl.Store{} }, "hosts"},
		{"four alone", func(s *impl.Store) { *s = impl.Store{Funcs: hostRows()} }, ""},
		{"another order", func(s *impl.Store) { s.Funcs[1], s.Funcs[2] = s.Funcs[2], s.Funcs[1] }, "hosts"},
	}
	for i := range 4 {
		for name, change := range map[string]func(f *impl.FuncInst){
			"host below": func(f *impl.FuncInst) { f.Host-- },
			"host above": func(f *impl.FuncInst) { f.Host++ },
			"host none":  func(f *impl.FuncInst) { f.Host = -1 },
			"a param":    func(f *impl.FuncInst) { f.Type.Params = append(f.Type.Params, 0x7f) },
			"params":     func(f *impl.FuncInst) { f.Type.Params = []int64{0x7d} },
			"a result":   func(f *impl.FuncInst) { f.Type.Results = []int64{0x7e} },
			"inst":       func(f *impl.FuncInst) { f.Inst = 1 },
			"locals":     func(f *impl.FuncInst) { f.Locals = []int64{0x7f} },
			"body":       func(f *impl.FuncInst) { f.Body = asm("end") },
		} {
			if i == 0 && name == "host below" {
				continue
			}
			rows = append(rows, storeRow{fmt.Sprint(i, name), func(s *impl.Store) {
				*s = impl.Store{Funcs: hostRows(), Insts: []impl.Instance{{}, {}}}
				change(&s.Funcs[i])
			}, "hosts"})
		}
		rows = append(rows, storeRow{"once more", func(s *impl.Store) { s.Funcs = append(s.Funcs, hostRows()[i]) }, "hosts"})
	}
	rows = append(rows,
		storeRow{"a host of its own", func(s *impl.Store) { s.Funcs = append(s.Funcs, impl.FuncInst{Host: 5}) }, "hosts"},
		storeRow{"a host below", func(s *impl.Store) { s.Funcs = append(s.Funcs, impl.FuncInst{Host: -1}) }, "hosts"},
		storeRow{"a host with a body", func(s *impl.Store) { s.Funcs[5].Host = 1 }, "hosts"},
	)
	checkStoreRows(t, rows)
	s := fullStore()
	if s.Funcs[0] = (impl.FuncInst{Type: funcType("i32 ->"), Body: asm("end")}); impl.ValidStore(s) {
		t.Errorf("a function in a host's place")
	}
}

// filledTo makes a list so long with copies of an entry.
func filledTo[T any](list *[]T, n int, one T) {
	for len(*list) < n {
		*list = append(*list, copyOf(one))
	}
}

func TestStoreBounds(t *testing.T) {
	lists := map[string]struct {
		most int
		fill func(s *impl.Store, n int)
	}{
		"funcs":   {500, func(s *impl.Store, n int) { filledTo(&s.Funcs, n, s.Funcs[4]) }},
		"tables":  {20, func(s *impl.Store, n int) { filledTo(&s.Tables, n, s.Tables[0]) }},
		"mems":    {20, func(s *impl.Store, n int) { filledTo(&s.Mems, n, s.Mems[1]) }},
		"globals": {500, func(s *impl.Store, n int) { filledTo(&s.Globals, n, s.Globals[0]) }},
		"insts":   {20, func(s *impl.Store, n int) { filledTo(&s.Insts, n, s.Insts[0]) }},
		"in":      {1000, func(s *impl.Store, n int) { filledTo(&s.In, n, 1<<32-1) }},
		"out":     {1000, func(s *impl.Store, n int) { filledTo(&s.Out, n, impl.Told{Host: 2, Val: 7}) }},
	}
	var rows []storeRow
	for name, l := range lists {
		rows = append(rows,
			storeRow{name + " at its bound", func(s *impl.Store) { l.fill(s, l.most) }, ""},
			storeRow{name + " beyond it", func(s *impl.Store) { l.fill(s, l.most+1) }, "many " + name},
		)
	}
	rows = append(rows, storeRow{"all at their bounds", func(s *impl.Store) {
		for _, l := range lists {
			l.fill(s, l.most)
		}
	}, ""})
	checkStoreRows(t, rows)
}

// addressPlaces puts an address in every place where one stands, with how many
// there are of its kind in fullStore.
func addressPlaces() map[string]struct {
	size int64
	put  func(s *impl.Store, addr int64)
} {
	type place = struct {
		size int64
		put  func(s *impl.Store, addr int64)
	}
	return map[string]place{
		"elem":          {7, func(s *impl.Store, a int64) { s.Tables[0].Elems[1] = a }},
		"last elem":     {7, func(s *impl.Store, a int64) { s.Tables[0].Elems[3] = a }},
		"func":          {7, func(s *impl.Store, a int64) { s.Insts[1].Funcs[0] = a }},
		"last func":     {7, func(s *impl.Store, a int64) { s.Insts[1].Funcs[2] = a }},
		"table":         {2, func(s *impl.Store, a int64) { s.Insts[1].Tables[0] = a }},
		"mem":           {2, func(s *impl.Store, a int64) { s.Insts[1].Mems[0] = a }},
		"global":        {4, func(s *impl.Store, a int64) { s.Insts[0].Globals[1] = a }},
		"export func":   {7, func(s *impl.Store, a int64) { s.Insts[0].Exports[0].Index = a }},
		"export table":  {2, func(s *impl.Store, a int64) { s.Insts[0].Exports[1].Index = a }},
		"export mem":    {2, func(s *impl.Store, a int64) { s.Insts[1].Exports[1].Index = a }},
		"export global": {4, func(s *impl.Store, a int64) { s.Insts[0].Exports[3].Index = a }},
		"inst":          {2, func(s *impl.Store, a int64) { s.Funcs[4].Inst = a }},
	}
}

func TestStoreAddresses(t *testing.T) {
	var rows []storeRow
	for name, p := range addressPlaces() {
		wrong := "addresses"
		if name == "inst" {
			wrong = "a function's instance"
		}
		for addr := range p.size {
			rows = append(rows, storeRow{fmt.Sprint(name, addr), func(s *impl.Store) { p.put(s, addr) }, ""})
		}
		for _, addr := range []int64{-1 << 63, -2, p.size, p.size + 1, 1<<32 + p.size, 1<<63 - 1} {
			rows = append(rows, storeRow{fmt.Sprint(name, addr), func(s *impl.Store) { p.put(s, addr) }, wrong})
		}
		if name != "elem" && name != "last elem" {
			rows = append(rows, storeRow{name + " -1", func(s *impl.Store) { p.put(s, -1) }, wrong})
		}
	}
	for kind := range int64(4) {
		rows = append(rows, storeRow{fmt.Sprint("kind ", kind), func(s *impl.Store) { s.Insts[1].Exports[0] = impl.Export{Kind: kind} }, ""})
	}
	for _, kind := range []int64{-1 << 63, -1, 4, 5, 1 << 32, 1<<63 - 1} {
		rows = append(rows, storeRow{fmt.Sprint("kind ", kind), func(s *impl.Store) { s.Insts[1].Exports[0] = impl.Export{Kind: kind} }, "kinds"})
	}
	checkStoreRows(t, rows)
}

// TestStoreFree has what the document asks nothing of.
func TestStoreFree(t *testing.T) {
	checkStoreRows(t, []storeRow{
		{"a name twice", func(s *impl.Store) { s.Insts[0].Exports[0].Name = s.Insts[0].Exports[1].Name }, ""},
		{"a name that is no text", func(s *impl.Store) { s.Insts[0].Exports[0].Name = "\xff" }, ""},
		{"an address twice", func(s *impl.Store) { s.Insts[0].Funcs = append(s.Insts[0].Funcs, 0, 0, 4) }, ""},
		{"an instance without anything", func(s *impl.Store) { s.Insts = append(s.Insts, impl.Instance{}) }, ""},
		{"a table that is nobody's", func(s *impl.Store) { s.Tables = append(s.Tables, impl.TableInst{}) }, ""},
		{"a memory that may be greater than 65536 pages", func(s *impl.Store) { s.Mems[0].Lim = limitsTo(1, 65537) }, ""},
		{"a function that its instance does not have", func(s *impl.Store) { s.Insts[0].Funcs = []int64{0} }, ""},
		{"more addresses than there are functions", func(s *impl.Store) { filledTo(&s.Insts[0].Funcs, 700, 1) }, ""},
	})
}

// typePlaces puts a value type in every place where one stands.
func typePlacesOfStore() map[string]func(s *impl.Store, ty int64) {
	return map[string]func(s *impl.Store, ty int64){
		"a function's param": func(s *impl.Store, ty int64) {
			s.Funcs[5].Type.Params = []int64{0x7f, ty}
		},
		"a function's result": func(s *impl.Store, ty int64) {
			s.Funcs[5].Type.Results, s.Funcs[5].Body = []int64{ty}, asm("unreachable; end")
		},
		"a function's local": func(s *impl.Store, ty int64) { s.Funcs[4].Locals[1] = ty },
		"an instance's param": func(s *impl.Store, ty int64) {
			s.Insts[0].Types[0].Params[0] = ty
		},
		"an instance's result": func(s *impl.Store, ty int64) { s.Insts[0].Types[0].Results[0] = ty },
		"a global":             func(s *impl.Store, ty int64) { s.Globals[3] = impl.GlobalInst{Type: impl.GlobalType{Type: ty}} },
	}
}

func TestStoreTypes(t *testing.T) {
	var rows []storeRow
	for name, put := range typePlacesOfStore() {
		for _, ty := range valueTypes() {
			rows = append(rows, storeRow{fmt.Sprint(name, ty), func(s *impl.Store) { put(s, ty) }, ""})
		}
		for _, ty := range noTypes() {
			rows = append(rows, storeRow{fmt.Sprint(name, ty), func(s *impl.Store) { put(s, ty) }, "value types"})
		}
	}
	checkStoreRows(t, append(rows,
		storeRow{"two results of a function", func(s *impl.Store) {
			s.Funcs[5].Type.Results, s.Funcs[5].Body = []int64{0x7f, 0x7e}, asm("unreachable; end")
		}, "one result"},
		storeRow{"two results of a type", func(s *impl.Store) { s.Insts[1].Types[0].Results = []int64{0x7c, 0x7c} }, "one result"},
		storeRow{"no result of a type", func(s *impl.Store) { s.Insts[1].Types[0].Results = nil }, ""},
	))
}

// limitRows are limits of a thing of some size, that may be at most most.
func limitRows(name string, size, most int64, few string, set func(s *impl.Store, l impl.Limits, size int64)) []storeRow {
	const top = 1<<32 - 1
	var rows []storeRow
	add := func(l impl.Limits, n int64, wrong string) {
		rows = append(rows, storeRow{fmt.Sprint(name, l, n), func(s *impl.Store) { set(s, l, n) }, wrong})
	}
	for _, l := range []impl.Limits{limits(0), limits(size), limitsTo(0, size), limitsTo(size, size), limitsTo(size, top), limitsTo(0, top), limitsTo(size, size+1)} {
		add(l, size, "")
	}
	add(limits(0), 0, "")
	add(limitsTo(0, 0), 0, "")
	add(limits(most), most, "")
	add(limits(0), most+1, "much more")
	add(limits(most+1), most+1, "much more")
	add(limitsTo(0, most+1), most+1, "much more")
	add(limitsTo(0, top), most, "")
	add(limits(size+1), size, few)
	add(limitsTo(size+1, top), size, few)
	add(limits(top), size, few)
	add(limitsTo(0, size-1), size, "more than max")
	add(limitsTo(0, 0), 1, "more than max")
	for _, n := range []int64{-1 << 63, -1 << 32, -1} {
		add(limits(n), size, "limits")
	}
	for _, n := range []int64{top + 1, 1<<63 - 1} {
		add(limitsTo(0, n), size, "limits")
	}
	for _, n := range []int64{1, size, top} {
		add(impl.Limits{Max: n}, size, "a max without")
	}
	return rows
}

func TestStoreLimits(t *testing.T) {
	table := func(s *impl.Store, l impl.Limits, size int64) {
		s.Tables[1] = impl.TableInst{Lim: l, Elems: slices.Repeat([]int64{-1}, int(size))}
	}
	memory := func(s *impl.Store, l impl.Limits, size int64) {
		s.Mems[1] = impl.MemInst{Lim: l, Data: pagesOf(int(size))}
	}
	checkStoreRows(t, limitRows("table", 9, 1000, "few elems", table))
	checkStoreRows(t, limitRows("memory", 2, 4, "few pages", memory))
	for _, min := range []int64{1 << 32, 1<<63 - 1} {
		for _, set := range []func(s *impl.Store, l impl.Limits, size int64){table, memory} {
			s := fullStore()
			if set(&s, limits(min), 1); impl.ValidStore(s) {
				t.Errorf("a Min of %d", min)
			}
			if set(&s, limitsTo(0, -1), 0); impl.ValidStore(s) {
				t.Errorf("a Max of -1")
			}
		}
	}
	for _, n := range []int{1, 65535, 65537, 2*65536 - 1, 2*65536 + 1, 4*65536 + 1} {
		rows := []storeRow{{fmt.Sprint(n, " bytes"), func(s *impl.Store) { s.Mems[0] = impl.MemInst{Data: make([]byte, n)} }, "whole pages"}}
		checkStoreRows(t, rows)
	}
}

func TestStoreValues(t *testing.T) {
	const half = 1 << 32
	var rows []storeRow
	for at, ty := range []string{"i64", "f64", "i32", "f32"} {
		for _, v := range []uint64{0, 1, half - 1, half, half + 1, 1 << 63, 1<<64 - 1} {
			wrong := ""
			if at >= 2 && v >= half {
				wrong = "upper half"
			}
			rows = append(rows, storeRow{fmt.Sprint(ty, v), func(s *impl.Store) { s.Globals[at].Val = v }, wrong})
		}
	}
	for _, v := range []uint64{half, half + 1, 1 << 63, 1<<64 - 1} {
		rows = append(rows,
			storeRow{fmt.Sprint("in ", v), func(s *impl.Store) { s.In[1] = v }, "in"},
			storeRow{fmt.Sprint("told 32 bits ", v), func(s *impl.Store) { s.Out[1].Val = v }, "upper half"},
			storeRow{fmt.Sprint("told 64 bits ", v), func(s *impl.Store) { s.Out[0].Val = v }, ""},
		)
	}
	for _, host := range []int64{-1 << 63, -1, 0, 3, 4, 5, 1 << 32} {
		rows = append(rows, storeRow{fmt.Sprint("told to ", host), func(s *impl.Store) { s.Out[1].Host = host }, "told"})
	}
	checkStoreRows(t, append(rows,
		storeRow{"no in and no out", func(s *impl.Store) { s.In, s.Out = nil, nil }, ""},
		storeRow{"two tables", func(s *impl.Store) { s.Insts[0].Tables = []int64{0, 1} }, "two tables"},
		storeRow{"one table twice", func(s *impl.Store) { s.Insts[0].Tables = []int64{0, 0} }, "two tables"},
		storeRow{"two memories", func(s *impl.Store) { s.Insts[0].Mems = []int64{0, 1} }, "two mems"},
		storeRow{"one memory twice", func(s *impl.Store) { s.Insts[0].Mems = []int64{0, 0} }, "two mems"},
		storeRow{"no table and no memory", func(s *impl.Store) { s.Insts[1].Tables, s.Insts[1].Mems = nil, nil }, ""},
	))
}

func TestStoreLocals(t *testing.T) {
	var rows []storeRow
	for _, n := range [][2]int{{1000, 0}, {0, 1000}, {999, 1}, {1, 999}, {500, 500}, {1001, 0}, {0, 1001}, {1000, 1}, {1, 1000}, {501, 500}} {
		wrong := ""
		if n[0]+n[1] > 1000 {
			wrong = "locals"
		}
		rows = append(rows, storeRow{fmt.Sprint(n), func(s *impl.Store) {
			f := &s.Funcs[5]
			f.Type.Params, f.Locals = slices.Repeat([]int64{0x7f}, n[0]), slices.Repeat([]int64{0x7e}, n[1])
		}, wrong})
	}
	checkStoreRows(t, rows)
}

// TestStoreBodies has bodies of function 5, of no type, without locals, in the
// first instance: functions i32 ->, i32 -> i64 and ->, globals i64 (Mut) and f32,
// types i32 -> f32 and -> i64.
func TestStoreBodies(t *testing.T) {
	bodies := map[string]string{
		"end": "", "i32.const; call 0; end": "", "call 2; end": "", "i32.const; call 1; drop; end": "",
		"i32.const; i32.const; call_indirect 0; drop; end": "", "i32.const; call_indirect 1; drop; end": "",
		"i64.const; global.set 0; end": "", "global.get 1; drop; end": "", "memory.size; drop; end": "", "unreachable; end": "",
		"i32.const; end": "bodies", "drop; end": "bodies", "nop": "bodies", "block; end": "bodies", "end; end": "bodies", "else; end": "bodies",
		"call 3; end": "bodies", "i64.const; call 0; end": "bodies", "call 0; end": "bodies", "i32.const; call 1; end": "bodies",
		"i32.const; call_indirect 2; end": "bodies", "f32.const; global.set 1; end": "bodies", "f32.const; global.set 0; end": "bodies",
		"global.get 2; drop; end": "bodies", "local.get 0; drop; end": "bodies", "i32.const; i32.load 3; drop; end": "bodies",
		"br 1; end": "bodies", "i64.const; global.set 2; end": "bodies",
	}
	var rows []storeRow
	for body, wrong := range bodies {
		rows = append(rows, storeRow{body, func(s *impl.Store) { s.Funcs[5].Body = asm(body) }, wrong})
	}
	checkStoreRows(t, append(rows,
		storeRow{"no body", func(s *impl.Store) { s.Funcs[5].Body = nil }, "bodies"},
		storeRow{"no instruction", func(s *impl.Store) { s.Funcs[5].Body = []impl.Ins{{Op: 0x06}, {Op: 0x0b}} }, "bodies"},
		storeRow{"a stray field", func(s *impl.Store) { s.Funcs[5].Body = []impl.Ins{{Op: 0x0b, A: 1}} }, "bodies"},
		storeRow{"an upper half", func(s *impl.Store) { s.Funcs[5].Body = []impl.Ins{{Op: 0x41, V: 1 << 32}, ins(0x1a), ins(0x0b)} }, "bodies"},
		storeRow{"no label", func(s *impl.Store) { s.Funcs[5].Body = []impl.Ins{{Op: 0x0c, A: -1}, ins(0x0b)} }, "bodies"},
		storeRow{"no table", func(s *impl.Store) { s.Insts[0].Tables = nil }, "bodies"},
		storeRow{"no memory", func(s *impl.Store) { s.Insts[0].Mems = nil }, "bodies"},
		storeRow{"no functions", func(s *impl.Store) { s.Insts[0].Funcs = nil }, "bodies"},
		storeRow{"another function", func(s *impl.Store) { s.Insts[0].Funcs[0] = 1 }, "bodies"},
		storeRow{"fewer types", func(s *impl.Store) { s.Insts[0].Types = s.Insts[0].Types[:1] }, "bodies"},
		storeRow{"another type", func(s *impl.Store) { s.Insts[0].Types[1].Results[0] = 0x7c }, "bodies"},
		storeRow{"another instance", func(s *impl.Store) { s.Funcs[6].Inst = 0 }, "bodies"},
		storeRow{"another global", func(s *impl.Store) { s.Insts[1].Globals[1] = 0 }, "bodies"},
		storeRow{"a global that is not Mut", func(s *impl.Store) { s.Globals[0].Type.Mut = false }, "bodies"},
		storeRow{"another local", func(s *impl.Store) { s.Funcs[6].Type.Params[0] = 0x7e }, "bodies"},
		storeRow{"locals behind parameters", func(s *impl.Store) {
			s.Funcs[4].Body = asm("local.get 1; i64.trunc_f32_s; local.get 2; i64.trunc_f64_s; i64.add; end")
		}, ""},
	))
}
