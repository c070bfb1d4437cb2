package tests

import (
	"slices"
	"testing"

	"loop.example/s00119/impl"
)

// closedBody is a list that begins with these instructions, and then has just
// the ends that it needs.
func closedBody(list []impl.Ins) []impl.Ins {
	open := 1
	for _, x := range list {
		switch x.Op {
		case 0x02, 0x03, 0x04:
			open++
		case 0x0b:
			open--
		}
	}
	return slices.Concat(list, slices.Repeat(insList(0x0b), open))
}

// walk goes through all bodies of at most left more instructions out of an
// alphabet; behind an instruction that is wrong there is nothing more to see.
// What is to be seen of a body that is valid, see does.
type walk struct {
	t        *testing.T
	alphabet []impl.Ins
	m        impl.Module
	see      func(m impl.Module)
	bodies   int
	valid    int
}

func (w *walk) check(list []impl.Ins) {
	w.m.Codes[1].Body = closedBody(list)
	if !impl.Closed(w.m.Codes[1].Body) {
		return
	}
	w.bodies++
	got, want := impl.Validate(w.m), wantValid(w.m)
	if got != want {
		w.t.Fatalf("%v: %+v, want %+v", w.m.Codes[1].Body, got, want)
	}
	if got.Err != 0 {
		return
	}
	w.valid++
	w.see(w.m)
}

// stands tells whether an instruction can stand behind a list, as to blocks.
func stands(list []impl.Ins, x impl.Ins) bool {
	if x.Op == 0x0b {
		return len(closedBody(list))-len(list) > 1
	}
	return x.Op != 0x05 || impl.Closed(closedBody(append(slices.Clone(list), x)))
}

func (w *walk) from(r *refBody, list []impl.Ins, left int) {
	w.check(list)
	if left == 0 {
		return
	}
	for _, x := range w.alphabet {
		next := append(slices.Clone(list), x)
		if !stands(list, x) {
			continue
		}
		if then := r.clone(); then.step(x) == 0 {
			w.from(then, next, left-1)
		} else {
			w.check(next)
		}
	}
}

// wantStacks is what StackAt has to say of each instruction of a body.
func wantStacks(m impl.Module, code int64) []impl.StackRes {
	var out []impl.StackRes
	r := newRefBody(m, code)
	for _, x := range m.Codes[code].Body {
		out = append(out, r.stack())
		r.step(x)
	}
	return out
}

func TestEveryShortBody(t *testing.T) {
	rows := []struct {
		ty       string
		alphabet string
		left     int
	}{
		{"", "unreachable; i32.const; i64.const; drop; select; i32.eqz; i64.eqz", 6},
		{"-> i32", "unreachable; i32.const; i64.const; drop; select; i64.eqz; br_if 0; return", 5},
		{"-> i32", "i32.const; block i32; loop i32; if i32; else; end; br 0; br_if 1; drop", 6},
		{"", "i32.const; block; if; else; end; br 1; br_table 0 1; drop; unreachable", 6},
		{"-> i64", "i32.const; i64.const; if i64; else; end; br 0; br 1; select; unreachable", 6},
		{"-> i64", "i64.const; block i64; loop i64; end; br_table 0 1; br_table 1 0 2; i32.const; return", 5},
		{"f32 -> f32", "local.get 0; local.set 1; local.tee 3; local.get 4; f32.const; f64.const; unreachable; br_if 0; end; loop", 4},
		{"-> f32", "i32.const; i64.const; call 0; call 1; call 2; call 3; call_indirect 1; call_indirect 3; unreachable; drop", 4},
		{"", "i32.const; i64.const; global.get 0; global.set 0; global.set 1; global.get 4; i32.load 2 0; i32.load 3 0; i64.store 3 0; memory.grow; unreachable", 4},
	}
	for _, r := range rows {
		m := bodyModule(funcType(r.ty), nil)
		see := func(m impl.Module) { checkStacks(t, m.Codes[1].Body, m, 1, wantStacks(m, 1)) }
		w := walk{t: t, alphabet: asm(r.alphabet), m: m, see: see}
		w.from(newRefBody(m, 1), nil, r.left)
		t.Logf("%s: %d bodies, %d of them valid", r.alphabet, w.bodies, w.valid)
		if w.valid < 100 || w.bodies < 10*w.valid/9 {
			t.Errorf("%s: %d bodies, %d of them valid", r.alphabet, w.bodies, w.valid)
		}
	}
}

// near is a number that is often an index of something.
func (k maker) near() int64 {
	if k.Intn(40) == 0 {
		return k.number()
	}
	return int64(k.Intn(6))
}

// nearIns is an instruction with fields that often fit.
func (k maker) nearIns() impl.Ins {
	w := pick(k, k.ops)
	if k.Intn(3) == 0 {
		w = refTable[pick(k, []int64{0x02, 0x03, 0x04, 0x05, 0x0b, 0x0c, 0x0d, 0x0e, 0x10, 0x11, 0x1a, 0x1b, 0x20, 0x21, 0x22, 0x23, 0x24})]
	}
	x := k.ins(w)
	switch w.form {
	case 2, 3, 4, 5:
		x.A = k.near()
	}
	if w.form == 3 {
		x.L = some(k, 4, k.near)
	}
	return x
}

// finished has what is needed to end the innermost block of a body: its stack
// emptied, its results given, and an else where there must be one.
func finished(r *refBody) []impl.Ins {
	top := r.top()
	list := slices.Repeat(asm("drop"), len(top.cases.one().types))
	list = append(list, consts(top.results)...)
	if top.bare && top.results != "" {
		return append(list, ins(0x05))
	}
	return append(list, ins(0x0b))
}

// body is a valid body of a code: out of many instructions those that the
// other checker takes, and then what ends all blocks.
func (k maker) body(m impl.Module, code int64, tries int) []impl.Ins {
	r := newRefBody(m, code)
	var list []impl.Ins
	for range tries {
		x := k.nearIns()
		if x.Op == 0x0b && len(r.blocks) == 1 || x.Op == 0x05 && !r.top().bare {
			continue
		}
		if then := r.clone(); then.step(x) == 0 {
			r, list = then, append(list, x)
		}
	}
	for len(r.blocks) > 0 {
		for _, x := range finished(r) {
			if err := r.step(x); err != 0 {
				panic("what should end a block does not")
			}
			list = append(list, x)
		}
	}
	return list
}

func (k maker) validLimits(most int64) impl.Limits {
	lim := impl.Limits{Min: k.Int63n(most + 1)}
	if k.Intn(2) == 0 {
		lim.Max, lim.HasMax = lim.Min+k.Int63n(most+1-lim.Min), true
	}
	return lim
}

func (k maker) validImport(types int, seen *[4]int) (impl.Import, bool) {
	x := impl.Import{Module: k.name(), Name: k.name(), Kind: int64(k.Intn(4))}
	if types == 0 && x.Kind == 0 || (x.Kind == 1 || x.Kind == 2) && seen[x.Kind] > 0 {
		return x, false
	}
	seen[x.Kind]++
	switch x.Kind {
	case 0:
		x.Type = int64(k.Intn(types))
	case 1:
		x.Lim = k.validLimits(1<<32 - 1)
	case 2:
		x.Lim = k.validLimits(65536)
	case 3:
		x.Global = k.globalType()
	}
	return x, true
}

// init is a list that gives a value of a type.
func (k maker) init(imports []impl.Import, ty int64) []impl.Ins {
	var list []impl.Ins
	var index int64
	for _, x := range imports {
		if x.Kind != 3 {
			continue
		}
		if x.Global == (impl.GlobalType{Type: ty}) && k.Intn(3) == 0 {
			list = []impl.Ins{{Op: 0x23, A: index}}
		}
		index++
	}
	if list == nil {
		list = consts(letters([]int64{ty}))
	}
	return append(list, ins(0x0b))
}

// validModule is valid by how it is made.
func (k maker) validModule() impl.Module {
	var m impl.Module
	var seen [4]int
	m.Types = some(k, 4, func() impl.FuncType {
		return impl.FuncType{Params: some(k, 3, k.valueType), Results: some(k, 1, k.valueType)}
	})
	for range k.Intn(6) {
		if x, ok := k.validImport(len(m.Types), &seen); ok {
			m.Imports = append(m.Imports, x)
		}
	}
	if len(m.Types) > 0 {
		m.Funcs = some(k, 4, func() int64 { return int64(k.Intn(len(m.Types))) })
	}
	if seen[1] == 0 && k.Intn(3) > 0 {
		m.Tables = []impl.Limits{k.validLimits(1<<32 - 1)}
	}
	if seen[2] == 0 && k.Intn(3) > 0 {
		m.Mems = []impl.Limits{k.validLimits(65536)}
	}
	m.Globals = some(k, 3, func() impl.Global {
		ty := k.globalType()
		return impl.Global{Type: ty, Init: k.init(m.Imports, ty.Type)}
	})
	k.fillModule(&m)
	return m
}

// fillModule adds what names the things of a module.
func (k maker) fillModule(m *impl.Module) {
	s := spacesOf(*m)
	sizes := []int64{int64(len(s.funcs)), s.tables, s.mems, int64(len(s.globals))}
	for i := range k.Intn(5) {
		if kind := int64(k.Intn(4)); sizes[kind] > 0 {
			m.Exports = append(m.Exports, impl.Export{Name: k.name() + string(rune('a'+i)), Kind: kind, Index: k.Int63n(sizes[kind])})
		}
	}
	for i, ty := range s.funcs {
		if same(s.types[ty], impl.FuncType{}) && k.Intn(2) == 0 {
			m.HasStart, m.Start = true, int64(i)
		}
	}
	if s.tables > 0 {
		m.Elems = some(k, 3, func() impl.Elem {
			e := impl.Elem{Offset: k.init(m.Imports, 0x7f)}
			if sizes[0] > 0 {
				e.Funcs = some(k, 3, func() int64 { return k.Int63n(sizes[0]) })
			}
			return e
		})
	}
	for len(m.Codes) < len(m.Funcs) {
		m.Codes = append(m.Codes, impl.Code{Locals: k.groups()})
	}
	for i := range m.Codes {
		m.Codes[i].Body = k.body(*m, int64(i), k.Intn(120))
	}
	if s.mems > 0 {
		m.Datas = some(k, 3, func() impl.Data { return impl.Data{Offset: k.init(m.Imports, 0x7f), Bytes: k.bytes()} })
	}
}

func TestValidModules(t *testing.T) {
	k := newMaker(61)
	seen := map[int64]bool{}
	for range 1500 {
		m := k.validModule()
		if want := wantValid(m); want != (impl.ValRes{}) {
			t.Fatalf("what the tests make is not valid: %+v: %+v", want, m)
		}
		if got := impl.Validate(m); got != (impl.ValRes{}) {
			t.Fatalf("%+v: %+v", got, m)
		}
		for code, c := range m.Codes {
			for _, x := range c.Body {
				seen[x.Op] = true
			}
			checkStacks(t, c, m, int64(code), wantStacks(m, int64(code)))
		}
		if b := impl.Encode(m); len(b) > 0 && !same(impl.Decode(b).Module, m) {
			t.Fatalf("written and read: %+v", m)
		}
	}
	for _, w := range allOps() {
		if !seen[w.op] {
			t.Errorf("%s stands in no body", w.name)
		}
	}
}

// spoilList changes an instruction, takes one away, or puts one in.
func (k maker) spoilList(list []impl.Ins) []impl.Ins {
	if len(list) == 0 {
		return []impl.Ins{k.nearIns()}
	}
	at := k.Intn(len(list))
	switch k.Intn(4) {
	case 0:
		return slices.Insert(slices.Clone(list), at, k.nearIns())
	case 1:
		return slices.Delete(slices.Clone(list), at, at+1)
	}
	out := slices.Clone(list)
	x := k.nearIns()
	if k.Intn(2) == 0 && impl.OpForm(out[at].Op) == 2 {
		x = impl.Ins{Op: out[at].Op, A: k.near()}
	}
	out[at] = x
	return out
}

// spoilAny does one of these that finds something to change.
func (k maker) spoilAny(m *impl.Module) {
	switch k.Intn(12) {
	case 0:
		m.Imports = append(slices.Clone(m.Imports), k.imported())
	case 1:
		m.Funcs = slices.Clone(m.Funcs)
		for i := range m.Funcs {
			m.Funcs[i] = k.near()
		}
	case 2:
		m.Tables = append(slices.Clone(m.Tables), k.limits())
	case 3:
		m.Mems = append(slices.Clone(m.Mems), k.limits())
	case 4:
		m.Globals = append(slices.Clone(m.Globals), impl.Global{Type: k.globalType(), Init: k.spoilList(k.init(m.Imports, k.valueType()))})
	case 5:
		m.Exports = append(slices.Clone(m.Exports), impl.Export{Name: k.name(), Kind: int64(k.Intn(4)), Index: k.near()})
	case 6:
		m.HasStart, m.Start = true, k.near()
	case 7:
		m.Elems = append(slices.Clone(m.Elems), impl.Elem{Offset: k.init(m.Imports, 0x7f), Funcs: some(k, 3, k.near)})
	case 8:
		m.Datas = append(slices.Clone(m.Datas), impl.Data{Offset: k.spoilList(k.init(m.Imports, 0x7f))})
	default:
		m.Codes = slices.Clone(m.Codes)
		for i := range m.Codes {
			m.Codes[i].Body = k.spoilList(m.Codes[i].Body)
		}
	}
}

func TestSpoiledModules(t *testing.T) {
	k := newMaker(62)
	seen := map[[2]int64]int{}
	for range 1500 {
		sound := k.validModule()
		for range 60 {
			m := sound
			for range 1 + k.Intn(2) {
				k.spoilAny(&m)
			}
			got, want := impl.Validate(m), wantValid(m)
			if got != want {
				t.Fatalf("%+v, want %+v: %+v", got, want, m)
			}
			seen[[2]int64{got.Err, got.Section}]++
		}
	}
	t.Logf("seen: %v", seen)
	faults := map[int64][]int64{
		0: {impl.VaOk, impl.VaForm}, 2: {impl.VaIndex, impl.VaLimits, impl.VaMany}, 3: {impl.VaIndex}, 4: {impl.VaLimits, impl.VaMany},
		5: {impl.VaLimits, impl.VaMany}, 6: {impl.VaConst, impl.VaIndex, impl.VaType}, 7: {impl.VaName, impl.VaIndex},
		8: {impl.VaIndex, impl.VaType}, 9: {impl.VaIndex}, 10: {impl.VaIndex, impl.VaAlign, impl.VaMut, impl.VaType},
		11: {impl.VaIndex, impl.VaConst, impl.VaType},
	}
	for section, errs := range faults {
		for _, err := range errs {
			if seen[[2]int64{err, section}] == 0 {
				t.Errorf("fault %d of section %d was not seen", err, section)
			}
		}
	}
}

// TestAnyModules has modules that are well formed and made without a look at
// what they name.
func TestAnyModules(t *testing.T) {
	k := newMaker(63)
	for range 20000 {
		m := k.module()
		if got, want := impl.Validate(m), wantValid(m); got != want {
			t.Fatalf("%+v, want %+v: %+v", got, want, m)
		}
	}
}
