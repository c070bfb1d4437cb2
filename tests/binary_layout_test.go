package tests

import (
	"bytes"
	"math"
	"math/rand"
	"reflect"
	"slices"

	"loop.example/s00119/impl"
)

// layout writes modules as chapter 5.1 says. Where longer is set, it tells of
// each number by how many bytes it is to be longer than it need be (within
// what the width allows); with hollow, sections whose vectors are empty are
// written too.
type layout struct {
	longer func() int
	hollow bool
}

func shortest() layout { return layout{longer: func() int { return 0 }} }

// number writes x in groups of seven bits; the rest of x that is all sign is
// left out, but for as many bytes as are asked for.
func (l layout) number(x int64, signed bool, most int) []byte {
	var out []byte
	for {
		out = append(out, byte(x&0x7f)|0x80)
		top := x >> 6 & 1
		x >>= 7
		if !signed && x == 0 || signed && x == -top {
			break
		}
	}
	for range l.longer() {
		if len(out) < most {
			out = append(out, byte(x&0x7f)|0x80)
		}
	}
	out[len(out)-1] &= 0x7f
	return out
}

func (l layout) u32(x int64) []byte { return l.number(x, false, 5) }

func (l layout) name(s string) []byte { return append(l.u32(int64(len(s))), s...) }

func vectorOf[T any](l layout, list []T, entry func(T) []byte) []byte {
	out := l.u32(int64(len(list)))
	for _, x := range list {
		out = append(out, entry(x)...)
	}
	return out
}

func oneByte(x int64) []byte { return []byte{byte(x)} }

func little(v uint64, size int) []byte {
	var out []byte
	for i := range size {
		out = append(out, byte(v>>(8*i)))
	}
	return out
}

func (l layout) ins(x impl.Ins) []byte {
	out := oneByte(x.Op)
	switch {
	case x.Op >= 0x02 && x.Op <= 0x04:
		return append(out, byte(x.A))
	case x.Op == 0x0e:
		return slices.Concat(out, vectorOf(l, x.L, l.u32), l.u32(x.A))
	case x.Op == 0x11:
		return slices.Concat(out, l.u32(x.A), []byte{0})
	case x.Op == 0x0c || x.Op == 0x0d || x.Op == 0x10 || x.Op >= 0x20 && x.Op <= 0x24:
		return append(out, l.u32(x.A)...)
	case x.Op >= 0x28 && x.Op <= 0x3e:
		return slices.Concat(out, l.u32(x.A), l.u32(x.B))
	case x.Op == 0x3f || x.Op == 0x40:
		return append(out, 0)
	case x.Op == 0x41:
		return append(out, l.number(int64(int32(x.V)), true, 5)...)
	case x.Op == 0x42:
		return append(out, l.number(int64(x.V), true, 10)...)
	case x.Op == 0x43:
		return append(out, little(x.V, 4)...)
	case x.Op == 0x44:
		return append(out, little(x.V, 8)...)
	}
	return out
}

func (l layout) list(list []impl.Ins) []byte {
	var out []byte
	for _, x := range list {
		out = append(out, l.ins(x)...)
	}
	return out
}

func (l layout) limits(lim impl.Limits) []byte {
	if !lim.HasMax {
		return slices.Concat([]byte{0}, l.u32(lim.Min))
	}
	return slices.Concat([]byte{1}, l.u32(lim.Min), l.u32(lim.Max))
}

func (l layout) table(lim impl.Limits) []byte { return slices.Concat([]byte{0x70}, l.limits(lim)) }

func globalTypeBytes(t impl.GlobalType) []byte {
	if t.Mut {
		return []byte{byte(t.Type), 1}
	}
	return []byte{byte(t.Type), 0}
}

func (l layout) imported(x impl.Import) []byte {
	what := map[int64]func() []byte{
		0: func() []byte { return l.u32(x.Type) },
		1: func() []byte { return l.table(x.Lim) },
		2: func() []byte { return l.limits(x.Lim) },
		3: func() []byte { return globalTypeBytes(x.Global) },
	}
	return slices.Concat(l.name(x.Module), l.name(x.Name), oneByte(x.Kind), what[x.Kind]())
}

func (l layout) code(c impl.Code) []byte {
	groups := vectorOf(l, c.Locals, func(g impl.Group) []byte { return append(l.u32(g.N), byte(g.Type)) })
	return l.name(string(append(groups, l.list(c.Body)...)))
}

// contents has what stands in each section, by its number.
func (l layout) contents(m impl.Module) [12][]byte {
	return [12][]byte{
		1: vectorOf(l, m.Types, func(t impl.FuncType) []byte {
			return slices.Concat([]byte{0x60}, vectorOf(l, t.Params, oneByte), vectorOf(l, t.Results, oneByte))
		}),
		2: vectorOf(l, m.Imports, l.imported),
		3: vectorOf(l, m.Funcs, l.u32),
		4: vectorOf(l, m.Tables, l.table),
		5: vectorOf(l, m.Mems, l.limits),
		6: vectorOf(l, m.Globals, func(g impl.Global) []byte {
			return slices.Concat(globalTypeBytes(g.Type), l.list(g.Init))
		}),
		7: vectorOf(l, m.Exports, func(x impl.Export) []byte {
			return slices.Concat(l.name(x.Name), oneByte(x.Kind), l.u32(x.Index))
		}),
		8: l.u32(m.Start),
		9: vectorOf(l, m.Elems, func(e impl.Elem) []byte {
			return slices.Concat([]byte{0}, l.list(e.Offset), vectorOf(l, e.Funcs, l.u32))
		}),
		10: vectorOf(l, m.Codes, l.code),
		11: vectorOf(l, m.Datas, func(d impl.Data) []byte {
			return slices.Concat([]byte{0}, l.list(d.Offset), l.name(string(d.Bytes)))
		}),
	}
}

// filled tells which sections have something in them.
func filled(m impl.Module) [12]bool {
	return [12]bool{
		1: len(m.Types) > 0, 2: len(m.Imports) > 0, 3: len(m.Funcs) > 0, 4: len(m.Tables) > 0, 5: len(m.Mems) > 0,
		6: len(m.Globals) > 0, 7: len(m.Exports) > 0, 8: m.HasStart, 9: len(m.Elems) > 0, 10: len(m.Codes) > 0,
		11: len(m.Datas) > 0,
	}
}

func (l layout) section(number int64, content []byte) []byte {
	return slices.Concat(oneByte(number), l.name(string(content)))
}

func (l layout) module(m impl.Module) []byte {
	out := []byte("\x00asm\x01\x00\x00\x00")
	has, contents := filled(m), l.contents(m)
	for number := range int64(12) {
		if has[number] || l.hollow && number != 0 && number != 8 {
			out = append(out, l.section(number, contents[number])...)
		}
		for _, c := range m.Customs {
			if c.After == number {
				out = append(out, l.section(0, append(l.name(c.Name), c.Bytes...))...)
			}
		}
	}
	return out
}

// same holds two values against each other; empty lists and nil are the same.
func same(a, b any) bool { return sameValue(reflect.ValueOf(a), reflect.ValueOf(b)) }

func sameValue(a, b reflect.Value) bool {
	switch a.Kind() {
	case reflect.Slice:
		if a.Len() != b.Len() {
			return false
		}
		if a.Type().Elem().Kind() == reflect.Uint8 {
			return bytes.Equal(a.Bytes(), b.Bytes())
		}
		for i := range a.Len() {
			if !sameValue(a.Index(i), b.Index(i)) {
				return false
			}
		}
		return true
	case reflect.Struct:
		for i := range a.NumField() {
			if !sameValue(a.Field(i), b.Field(i)) {
				return false
			}
		}
		return true
	}
	return a.Equal(b)
}

// maker makes things that are well formed, at random.
type maker struct {
	*rand.Rand
	ops []opWant
}

func newMaker(seed int64) maker {
	ops := allOps()
	slices.SortFunc(ops, func(a, b opWant) int { return int(a.op - b.op) })
	return maker{rand.New(rand.NewSource(seed)), ops}
}

func pick[T any](k maker, list []T) T { return list[k.Intn(len(list))] }

func some[T any](k maker, most int, one func() T) []T {
	var out []T
	for range k.Intn(most + 1) {
		out = append(out, one())
	}
	return out
}

func (k maker) number() int64 {
	if k.Intn(3) == 0 {
		return pick(k, u32s())
	}
	return int64(k.Uint32() >> k.Intn(32))
}

func (k maker) valueType() int64 { return pick(k, valueTypes()) }

func (k maker) name() string {
	return pick(k, []string{"", "a", "memory", "é", "\U0010ffff", "\x00", "\ud7ff!", "a longer name than the others", "\x7f\u0080"})
}

func (k maker) limits() impl.Limits {
	if k.Intn(2) == 0 {
		return impl.Limits{Min: k.number()}
	}
	return impl.Limits{Min: k.number(), Max: k.number(), HasMax: true}
}

func (k maker) globalType() impl.GlobalType {
	return impl.GlobalType{Type: k.valueType(), Mut: k.Intn(2) == 0}
}

func (k maker) ins(w opWant) impl.Ins {
	x := impl.Ins{Op: w.op}
	switch w.form {
	case 1:
		x.A = pick(k, append(valueTypes(), 0x40))
	case 2, 4:
		x.A = k.number()
	case 3:
		x.A, x.L = k.number(), some(k, 4, k.number)
	case 5:
		x.A, x.B = k.number(), k.number()
	case 7:
		x.V = uint64(uint32(pick(k, edgeWords())))
	case 9:
		x.V = uint64(k.Uint32())
	case 8, 10:
		x.V = pick(k, edgeWords())
	}
	return x
}

// list is closed: what comes of size instructions, and the ends they need.
func (k maker) list(size int) []impl.Ins {
	var out []impl.Ins
	open := []bool{false}
	for range size {
		w := pick(k, k.ops)
		last := len(open) - 1
		switch {
		case w.op == 0x05 && !open[last] || w.op == 0x0b && last == 0:
			continue
		case w.op == 0x05:
			open[last] = false
		case w.op == 0x0b:
			open = open[:last]
		case w.form == 1:
			open = append(open, w.op == 0x04)
		}
		out = append(out, k.ins(w))
	}
	return append(out, insList(slices.Repeat([]int64{0x0b}, len(open))...)...)
}

func (k maker) shortList() []impl.Ins { return k.list(k.Intn(4)) }

func (k maker) imported() impl.Import {
	x := impl.Import{Module: k.name(), Name: k.name(), Kind: int64(k.Intn(4))}
	switch x.Kind {
	case 0:
		x.Type = k.number()
	case 1, 2:
		x.Lim = k.limits()
	case 3:
		x.Global = k.globalType()
	}
	return x
}

func (k maker) groups() []impl.Group {
	if k.Intn(6) == 0 {
		return []impl.Group{{N: 1 << 31, Type: k.valueType()}, {N: 0, Type: k.valueType()}, {N: math.MaxInt32, Type: k.valueType()}}
	}
	return some(k, 3, func() impl.Group { return impl.Group{N: k.number() >> 3, Type: k.valueType()} })
}

func (k maker) bytes() []byte { return some(k, 6, func() byte { return byte(k.Intn(256)) }) }

// module has a good part of its sections empty.
func (k maker) module() impl.Module {
	few := func() int { return max(0, k.Intn(6)-2) }
	m := impl.Module{
		Types: some(k, few(), func() impl.FuncType {
			return impl.FuncType{Params: some(k, 3, k.valueType), Results: some(k, 1, k.valueType)}
		}),
		Imports: some(k, few(), k.imported),
		Funcs:   some(k, few(), k.number),
		Tables:  some(k, few(), k.limits),
		Mems:    some(k, few(), k.limits),
		Globals: some(k, few(), func() impl.Global { return impl.Global{Type: k.globalType(), Init: k.shortList()} }),
		Exports: some(k, few(), func() impl.Export {
			return impl.Export{Name: k.name(), Kind: int64(k.Intn(4)), Index: k.number()}
		}),
		HasStart: k.Intn(2) == 0,
		Elems:    some(k, few(), func() impl.Elem { return impl.Elem{Offset: k.shortList(), Funcs: some(k, 3, k.number)} }),
		Datas:    some(k, few(), func() impl.Data { return impl.Data{Offset: k.shortList(), Bytes: k.bytes()} }),
	}
	if m.HasStart {
		m.Start = k.number()
	}
	for range m.Funcs {
		m.Codes = append(m.Codes, impl.Code{Locals: k.groups(), Body: k.list(k.Intn(12))})
	}
	has := filled(m)
	for after := range int64(12) {
		if after == 0 || has[after] {
			m.Customs = append(m.Customs, some(k, few(), func() impl.Custom {
				return impl.Custom{After: after, Name: k.name(), Bytes: k.bytes()}
			})...)
		}
	}
	return m
}
