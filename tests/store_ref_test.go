package tests

import (
	"slices"
	"testing"

	"loop.example/s00119/impl"
)

// refLink makes an instance by the document's words, in a store that is its
// own.
type refLink struct {
	s     impl.Store
	m     impl.Module
	with  []impl.Extern
	addrs [4][]int64
}

func refFits(size int64, have, want impl.Limits) bool {
	if want.HasMax && (!have.HasMax || want.Max < have.Max) {
		return false
	}
	return want.Min <= size
}

// given is 4 or 5, or 0 where x can stand for the import.
func (l *refLink) given(want impl.Import, x impl.Extern) int64 {
	sizes := []int{len(l.s.Funcs), len(l.s.Tables), len(l.s.Mems), len(l.s.Globals)}
	if want.Kind != x.Kind || x.Addr < 0 || x.Addr >= int64(sizes[x.Kind]) {
		return 4
	}
	var fits bool
	switch want.Kind {
	case 0:
		fits = same(l.m.Types[want.Type], l.s.Funcs[x.Addr].Type)
	case 1:
		have := l.s.Tables[x.Addr]
		fits = refFits(int64(len(have.Elems)), have.Lim, want.Lim)
	case 2:
		have := l.s.Mems[x.Addr]
		fits = refFits(int64(len(have.Data)>>16), have.Lim, want.Lim)
	case 3:
		have := l.s.Globals[x.Addr].Type
		fits = have.Type == want.Global.Type && have.Mut == want.Global.Mut
	}
	if !fits {
		return 5
	}
	return 0
}

func (l *refLink) tooManyLocals() bool {
	for i, c := range l.m.Codes {
		n := int64(len(l.m.Types[l.m.Funcs[i]].Params))
		for _, g := range c.Locals {
			n += g.N
		}
		if n > 1000 {
			return true
		}
	}
	return false
}

func (l *refLink) tooMuch() bool {
	for _, b := range [][3]int{
		{len(l.s.Funcs), len(l.m.Funcs), 500}, {len(l.s.Tables), len(l.m.Tables), 20}, {len(l.s.Mems), len(l.m.Mems), 20},
		{len(l.s.Globals), len(l.m.Globals), 500}, {len(l.s.Insts), 1, 20},
	} {
		if b[0]+b[1] > b[2] {
			return true
		}
	}
	great := func(most int64) func(impl.Limits) bool { return func(lim impl.Limits) bool { return lim.Min > most } }
	return slices.ContainsFunc(l.m.Tables, great(1000)) || slices.ContainsFunc(l.m.Mems, great(4))
}

// err is the first cause, but for traps.
func (l *refLink) err() int64 {
	switch {
	case len(storeWrong(l.s)) > 0:
		return 1
	case wantValid(l.m).Err != 0 || l.tooManyLocals():
		return 2
	case len(l.m.Imports) != len(l.with):
		return 3
	}
	for i, want := range l.m.Imports {
		if err := l.given(want, l.with[i]); err != 0 {
			return err
		}
	}
	if l.tooMuch() {
		return 6
	}
	return 0
}

// value is that of a list of constants: what it names is imported.
func (l *refLink) value(list []impl.Ins) uint64 {
	if list[0].Op == 0x23 {
		return l.s.Globals[l.addrs[3][list[0].A]].Val
	}
	return list[0].V
}

func (l *refLink) instance() {
	for _, x := range l.with {
		l.addrs[x.Kind] = append(l.addrs[x.Kind], x.Addr)
	}
	for i, ty := range l.m.Funcs {
		f := impl.FuncInst{Type: l.m.Types[ty], Inst: int64(len(l.s.Insts)), Body: l.m.Codes[i].Body}
		for _, g := range l.m.Codes[i].Locals {
			for range g.N {
				f.Locals = append(f.Locals, g.Type)
			}
		}
		l.addrs[0] = append(l.addrs[0], int64(len(l.s.Funcs)))
		l.s.Funcs = append(l.s.Funcs, f)
	}
	for _, lim := range l.m.Tables {
		l.addrs[1] = append(l.addrs[1], int64(len(l.s.Tables)))
		x := impl.TableInst{Lim: lim}
		for range lim.Min {
			x.Elems = append(x.Elems, -1)
		}
		l.s.Tables = append(l.s.Tables, x)
	}
	for _, lim := range l.m.Mems {
		l.addrs[2] = append(l.addrs[2], int64(len(l.s.Mems)))
		l.s.Mems = append(l.s.Mems, impl.MemInst{Lim: lim, Data: pagesOf(int(lim.Min))})
	}
	for _, g := range l.m.Globals {
		l.s.Globals = append(l.s.Globals, impl.GlobalInst{Type: g.Type, Val: l.value(g.Init)})
		l.addrs[3] = append(l.addrs[3], int64(len(l.s.Globals)-1))
	}
	x := impl.Instance{Types: l.m.Types, Funcs: l.addrs[0], Tables: l.addrs[1], Mems: l.addrs[2], Globals: l.addrs[3]}
	for _, e := range l.m.Exports {
		x.Exports = append(x.Exports, impl.Export{Name: e.Name, Kind: e.Kind, Index: l.addrs[e.Kind][e.Index]})
	}
	l.s.Insts = append(l.s.Insts, x)
}

// segments is a trap, or 0 where all of them are written.
func (l *refLink) segments() int64 {
	for _, e := range l.m.Elems {
		elems, at := l.s.Tables[l.addrs[1][0]].Elems, l.value(e.Offset)
		if int64(at)+int64(len(e.Funcs)) > int64(len(elems)) {
			return 6
		}
		for i, f := range e.Funcs {
			elems[int(at)+i] = l.addrs[0][f]
		}
	}
	for _, d := range l.m.Datas {
		data, at := l.s.Mems[l.addrs[2][0]].Data, l.value(d.Offset)
		if int64(at)+int64(len(d.Bytes)) > int64(len(data)) {
			return 5
		}
		for i, c := range d.Bytes {
			data[int(at)+i] = c
		}
	}
	return 0
}

func wantLink(s impl.Store, m impl.Module, with []impl.Extern) impl.InstRes {
	l := refLink{s: copyOf(s), m: m, with: with}
	switch err := l.err(); err {
	case 0:
	case 1:
		return impl.InstRes{Err: 1}
	default:
		return impl.InstRes{Err: err, Store: s}
	}
	l.instance()
	if trap := l.segments(); trap != 0 {
		return impl.InstRes{Err: 7, Trap: trap, Store: s}
	}
	return impl.InstRes{Index: int64(len(s.Insts)), Store: l.s}
}

// checkLink holds Instantiate against the other linker of the tests, and
// promise 10 with it.
func checkLink(t *testing.T, what any, s impl.Store, m impl.Module, with []impl.Extern) impl.InstRes {
	t.Helper()
	args := []any{copyOf(s), copyOf(m), slices.Clone(with)}
	want := wantLink(s, m, with)
	got := impl.Instantiate(s, m, with)
	if !same(got, want) {
		t.Fatalf("%v: Err %d, Trap %d, Index %d, want %d, %d, %d: %+v, want %+v; of %+v in %+v with %v", what, got.Err, got.Trap, got.Index, want.Err, want.Trap, want.Index, shown(got.Store), shown(want.Store), m, shown(s), with)
	}
	for i, v := range []any{s, m, with} {
		if !same(v, args[i]) {
			t.Fatalf("%v: argument %d was written to", what, i)
		}
	}
	switch {
	case got.Err == 1 && !same(got.Store, impl.Store{}):
		t.Errorf("%v: a store beside LkStore", what)
	case got.Err > 1 && !same(got.Store, s):
		t.Errorf("%v: something is changed beside an Err", what)
	case got.Err != 1 && !impl.ValidStore(got.Store):
		t.Errorf("%v: the store is not valid any more", what)
	}
	return got
}
