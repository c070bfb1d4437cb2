package tests

import (
	"reflect"
	"slices"
	"testing"

	"loop.example/s00119/impl"
)

// copyOf has all lists of v anew.
func copyOf[T any](v T) T {
	return copyValue(reflect.ValueOf(v)).Interface().(T)
}

func copyValue(v reflect.Value) reflect.Value {
	out := reflect.New(v.Type()).Elem()
	switch v.Kind() {
	case reflect.Slice:
		if v.Len() == 0 {
			return out
		}
		out.Set(reflect.MakeSlice(v.Type(), v.Len(), v.Len()))
		if plain := v.Type().Elem().Kind(); plain != reflect.Struct && plain != reflect.Slice {
			reflect.Copy(out, v)
			return out
		}
		for i := range v.Len() {
			out.Index(i).Set(copyValue(v.Index(i)))
		}
	case reflect.Struct:
		for i := range v.NumField() {
			out.Field(i).Set(copyValue(v.Field(i)))
		}
	default:
		out.Set(v)
	}
	return out
}

func limits(min int64) impl.Limits { return impl.Limits{Min: min} }

func limitsTo(min, max int64) impl.Limits { return impl.Limits{Min: min, Max: max, HasMax: true} }

func pagesOf(n int) []byte { return make([]byte, n*65536) }

func globalOf(ty string, mut bool, val uint64) impl.GlobalInst {
	return impl.GlobalInst{Type: impl.GlobalType{Type: typeWords()[ty], Mut: mut}, Val: val}
}

// hostRows are the first four functions of every store.
func hostRows() []impl.FuncInst {
	return []impl.FuncInst{
		{Host: 1, Type: funcType("i32 ->")}, {Host: 2, Type: funcType("i64 ->")}, {Host: 3, Type: funcType("-> i32")}, {Host: 4},
	}
}

// fullStore has something of everything, and two instances that share much;
// its lists are all its own.
func fullStore() impl.Store {
	own := func(inst int64, ty, locals, body string) impl.FuncInst {
		return impl.FuncInst{Type: funcType(ty), Inst: inst, Locals: typesOf(locals), Body: asm(body)}
	}
	return impl.Store{
		Funcs: append(hostRows(),
			own(0, "i32 -> i64", "fF", "local.get 0; i64.extend_i32_u; end"),
			own(0, "", "", "i32.const 3; call_indirect 1; global.set 0; i32.const 1; i32.load 2 4; call 0; end"),
			own(1, "f64 -> f64", "i", "local.get 0; global.get 1; f64.add; end"),
		),
		Tables: []impl.TableInst{
			{Lim: limitsTo(2, 7), Elems: []int64{-1, 3, 6, 5}},
			{Lim: limits(0)},
		},
		Mems: []impl.MemInst{
			{Lim: limitsTo(1, 3), Data: pagesOf(2)},
			{Lim: limits(0)},
		},
		Globals: []impl.GlobalInst{
			globalOf("i64", true, 1<<63), globalOf("f64", false, 1<<62), globalOf("i32", true, 1<<31), globalOf("f32", false, 1<<30),
		},
		Insts: []impl.Instance{
			{
				Types: []impl.FuncType{funcType("i32 -> f32"), funcType("-> i64")}, Funcs: []int64{0, 4, 5}, Tables: []int64{0}, Mems: []int64{0},
				Globals: []int64{0, 3},
				Exports: []impl.Export{{Name: "f", Kind: 0, Index: 5}, {Name: "t", Kind: 1}, {Name: "m", Kind: 2}, {Name: "", Kind: 3, Index: 3}},
			},
			{
				Types: []impl.FuncType{funcType("f64 -> f64")}, Funcs: []int64{4, 3, 6}, Tables: []int64{1}, Mems: []int64{1},
				Globals: []int64{2, 1}, Exports: []impl.Export{{Name: "f", Kind: 0, Index: 3}, {Name: "m", Kind: 2, Index: 0}},
			},
		},
		In:  []uint64{1<<32 - 1, 0},
		Out: []impl.Told{{Host: 2, Val: 1<<64 - 1}, {Host: 1, Val: 1<<32 - 1}},
	}
}

// refStore holds a store against the document's sentences, and gathers those
// that do not hold.
type refStore struct {
	s     impl.Store
	wrong []string
}

func (r *refStore) ask(holds bool, sentence string) bool {
	if !holds && !slices.Contains(r.wrong, sentence) {
		r.wrong = append(r.wrong, sentence)
	}
	return holds
}

func refIsType(ty int64) bool { return slices.Contains(valueTypes(), ty) }

func (r *refStore) typed(types ...impl.FuncType) bool {
	for _, ty := range types {
		all := slices.Concat(ty.Params, ty.Results)
		if !r.ask(len(ty.Results) < 2, "one result") || !r.values(all...) {
			return false
		}
	}
	return true
}

func (r *refStore) values(types ...int64) bool {
	return r.ask(!slices.ContainsFunc(types, func(ty int64) bool { return !refIsType(ty) }), "value types")
}

func (r *refStore) address(kind int64, addrs ...int64) bool {
	sizes := []int{len(r.s.Funcs), len(r.s.Tables), len(r.s.Mems), len(r.s.Globals)}
	for _, addr := range addrs {
		if !r.ask(addr >= 0 && addr < int64(sizes[kind]), "addresses") {
			return false
		}
	}
	return true
}

func (r *refStore) sized(l impl.Limits, n, most int, few string) {
	size, top := int64(n), int64(1)<<32-1
	r.ask(l.Min >= 0 && l.Min <= top && l.Max >= 0 && l.Max <= top, "limits")
	r.ask(l.HasMax || l.Max == 0, "a max without")
	r.ask(l.Min <= size, few)
	if l.HasMax {
		r.ask(size <= l.Max, "more than max")
	}
	r.ask(n <= most, "much more")
}

func (r *refStore) bounds() {
	s := r.s
	for name, b := range map[string][2]int{
		"funcs": {len(s.Funcs), 500}, "tables": {len(s.Tables), 20}, "mems": {len(s.Mems), 20}, "globals": {len(s.Globals), 500},
		"insts": {len(s.Insts), 20}, "in": {len(s.In), 1000}, "out": {len(s.Out), 1000},
	} {
		r.ask(b[0] <= b[1], "many "+name)
	}
}

func (r *refStore) hosts() {
	hosts := hostRows()
	if !r.ask(len(r.s.Funcs) >= 4, "hosts") {
		return
	}
	for i, f := range r.s.Funcs {
		if i < 4 {
			r.ask(same(f, hosts[i]), "hosts")
		} else {
			r.ask(f.Host == 0, "hosts")
		}
	}
}

func (r *refStore) things() {
	for _, x := range r.s.Tables {
		r.sized(x.Lim, len(x.Elems), 1000, "few elems")
		for _, addr := range x.Elems {
			if addr != -1 {
				r.address(0, addr)
			}
		}
	}
	for _, x := range r.s.Mems {
		if r.ask(len(x.Data)%65536 == 0, "whole pages") {
			r.sized(x.Lim, len(x.Data)/65536, 4, "few pages")
		}
	}
	for _, x := range r.s.Globals {
		r.values(x.Type.Type)
		r.ask(!slices.Contains([]int64{0x7f, 0x7d}, x.Type.Type) || x.Val>>32 == 0, "upper half")
	}
	for _, v := range r.s.In {
		r.ask(v>>32 == 0, "in")
	}
	for _, x := range r.s.Out {
		r.ask(x.Host == 1 || x.Host == 2, "told")
		r.ask(x.Host != 1 || x.Val>>32 == 0, "upper half")
	}
}

// instances has for each of them whether a body can be held against it.
func (r *refStore) instances() []bool {
	var out []bool
	for _, x := range r.s.Insts {
		right := r.typed(x.Types...)
		right = r.address(0, x.Funcs...) && right
		right = r.address(1, x.Tables...) && right
		right = r.address(2, x.Mems...) && right
		right = r.address(3, x.Globals...) && right
		right = r.ask(len(x.Tables) < 2, "two tables") && right
		right = r.ask(len(x.Mems) < 2, "two mems") && right
		for _, e := range x.Exports {
			if r.ask(e.Kind >= 0 && e.Kind <= 3, "kinds") {
				r.address(e.Kind, e.Index)
			}
		}
		out = append(out, right)
	}
	return out
}

// bodyAlone is a module in which f stands as the only code, and everything
// that its instance has is imported; the types of functions stand behind those
// of the instance.
func (r *refStore) bodyAlone(f impl.FuncInst) impl.Module {
	x := r.s.Insts[f.Inst]
	m := impl.Module{Types: slices.Clone(x.Types)}
	typeOf := func(ty impl.FuncType) int64 {
		m.Types = append(m.Types, ty)
		return int64(len(m.Types)) - 1
	}
	for _, addr := range x.Funcs {
		m.Imports = append(m.Imports, impl.Import{Type: typeOf(r.s.Funcs[addr].Type)})
	}
	for _, addr := range x.Globals {
		m.Imports = append(m.Imports, impl.Import{Kind: 3, Global: r.s.Globals[addr].Type})
	}
	for range x.Tables {
		m.Imports = append(m.Imports, impl.Import{Kind: 1})
	}
	for range x.Mems {
		m.Imports = append(m.Imports, impl.Import{Kind: 2})
	}
	m.Funcs = []int64{typeOf(f.Type)}
	code := impl.Code{Body: f.Body}
	for _, ty := range f.Locals {
		code.Locals = append(code.Locals, impl.Group{N: 1, Type: ty})
	}
	m.Codes = []impl.Code{code}
	return m
}

// bodies are looked at where all types are right.
func (r *refStore) bodies(inst []bool) {
	if slices.Contains(r.wrong, "value types") || slices.Contains(r.wrong, "one result") {
		return
	}
	for _, f := range r.s.Funcs {
		if f.Host != 0 || f.Inst < 0 || f.Inst >= int64(len(inst)) || !inst[f.Inst] {
			continue
		}
		x := r.s.Insts[f.Inst]
		for _, i := range f.Body {
			r.ask(i.Op != 0x10 || i.A < int64(len(x.Funcs)), "bodies")
			r.ask(i.Op != 0x11 || i.A < int64(len(x.Types)), "bodies")
		}
		r.ask(wantValid(r.bodyAlone(f)).Err == 0, "bodies")
	}
}

func (r *refStore) functions() {
	for _, f := range r.s.Funcs {
		r.typed(f.Type)
		if f.Host == 0 {
			r.values(f.Locals...)
			r.ask(len(f.Type.Params)+len(f.Locals) <= 1000, "locals")
			r.ask(f.Inst >= 0 && f.Inst < int64(len(r.s.Insts)), "a function's instance")
		}
	}
}

// storeWrong has the sentences that do not hold.
func storeWrong(s impl.Store) []string {
	r := &refStore{s: s}
	r.bounds()
	r.hosts()
	r.things()
	r.functions()
	r.bodies(r.instances())
	return r.wrong
}

// shown is a store without the bytes of its memories.
func shown(s impl.Store) impl.Store {
	s.Mems = slices.Clone(s.Mems)
	for i := range s.Mems {
		s.Mems[i].Data = s.Mems[i].Data[:min(len(s.Mems[i].Data), 8)]
	}
	return s
}

// checkStore holds ValidStore against the other checker of the tests.
func checkStore(t *testing.T, what any, s impl.Store) []string {
	t.Helper()
	wrong := storeWrong(s)
	if got := impl.ValidStore(s); got != (len(wrong) == 0) {
		t.Fatalf("%v: %v; what does not hold: %v: %+v", what, got, wrong, shown(s))
	}
	return wrong
}
