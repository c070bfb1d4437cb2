package tests

import (
	"math"
	"reflect"
	"slices"
	"testing"

	"loop.example/s00119/impl"
)

// spoilValue changes one thing in what v has, at any depth; lists are made
// anew, so that what was copied from v before stays as it was.
func (k maker) spoilValue(v reflect.Value) {
	switch v.Kind() {
	case reflect.Struct:
		if v.Type() == reflect.TypeFor[impl.Ins]() && k.Intn(2) == 0 {
			v.Set(reflect.ValueOf(k.nearIns()))
			return
		}
		k.spoilValue(v.Field(k.Intn(v.NumField())))
	case reflect.Slice:
		k.spoilSlice(v)
	case reflect.Int64:
		v.SetInt(pick(k, []int64{v.Int() - 1, v.Int() + 1, -1, 0, k.near(), int64(0x7c + k.Intn(4)), k.number(), -v.Int(), math.MinInt64, 1 << 32}))
	case reflect.Uint64:
		v.SetUint(pick(k, []uint64{v.Uint() - 1, v.Uint() + 1, 0, 1<<32 - 1, 1 << 32, k.Uint64(), ^v.Uint()}))
	case reflect.Bool:
		v.SetBool(!v.Bool())
	case reflect.String:
		v.SetString(k.name())
	}
}

func (k maker) spoilSlice(v reflect.Value) {
	n := v.Len()
	out := reflect.MakeSlice(v.Type(), n, n)
	reflect.Copy(out, v)
	at := k.Intn(n + 1)
	switch k.Intn(6) {
	case 0:
		one := reflect.New(v.Type().Elem()).Elem()
		if n > 0 {
			one.Set(v.Index(k.Intn(n)))
		}
		out = reflect.AppendSlice(reflect.Append(v.Slice3(0, at, at), one), v.Slice(at, n))
	case 1:
		if at < n {
			out = reflect.AppendSlice(v.Slice3(0, at, at), v.Slice(at+1, n))
		}
	default:
		if at < n {
			k.spoilValue(out.Index(at))
		}
	}
	v.Set(out)
}

// spoiled is v with some changes.
func spoiled[T any](k maker, v T) T {
	for range 1 + k.Intn(2) {
		k.spoilValue(reflect.ValueOf(&v).Elem())
	}
	return v
}

// fitting is an import for what stands at an address, that fits it or nearly
// does; a function's type is added to the module.
func (k maker) fitting(s impl.Store, x impl.Extern, m *impl.Module) impl.Import {
	near := func(size int, own impl.Limits, most int64) impl.Limits {
		l := impl.Limits{Min: max(0, int64(size)-int64(k.Intn(3)))}
		if own.HasMax && own.Max <= most && k.Intn(2) == 0 {
			l = limitsTo(l.Min, min(most, own.Max+int64(k.Intn(2))))
		}
		if k.Intn(12) == 0 {
			l.Min = min(most, l.Min+1)
		}
		if l.HasMax && l.Max < l.Min {
			l = limits(l.Min)
		}
		return l
	}
	want := impl.Import{Module: k.name(), Name: k.name(), Kind: x.Kind}
	switch x.Kind {
	case 0:
		m.Types = append(m.Types, s.Funcs[x.Addr].Type)
		want.Type = int64(len(m.Types)) - 1
	case 1:
		want.Lim = near(len(s.Tables[x.Addr].Elems), s.Tables[x.Addr].Lim, 1<<32-1)
	case 2:
		want.Lim = near(len(s.Mems[x.Addr].Data)/65536, s.Mems[x.Addr].Lim, 65536)
	case 3:
		want.Global = s.Globals[x.Addr].Type
	}
	return want
}

// smallLimits are mostly such as a store has room for.
func (k maker) smallLimits(most int64) impl.Limits {
	min := k.Int63n(most)
	if k.Intn(30) == 0 {
		min = most + k.Int63n(2)
	}
	if k.Intn(2) == 0 {
		return limits(min)
	}
	return limitsTo(min, min+k.Int63n(5))
}

// offset leads mostly into the first entries.
func (k maker) offset(list []impl.Ins) {
	if list[0].Op == 0x41 {
		list[0].V = pick(k, []uint64{0, 0, 0, 0, 1, 2, 3, uint64(k.Intn(9)), 65535, 1<<32 - 1})
	}
}

// linkModule is valid, and made for a store: its imports, and what is to stand
// for them.
func (k maker) linkModule(s impl.Store) (impl.Module, []impl.Extern) {
	var m impl.Module
	var with []impl.Extern
	m.Types = some(k, 3, func() impl.FuncType {
		return impl.FuncType{Params: some(k, 3, k.valueType), Results: some(k, 1, k.valueType)}
	})
	sizes := []int{len(s.Funcs), len(s.Tables), len(s.Mems), len(s.Globals)}
	var seen [4]int
	for range k.Intn(6) {
		kind := int64(k.Intn(4))
		if sizes[kind] == 0 || seen[kind] > 0 && (kind == 1 || kind == 2) {
			continue
		}
		seen[kind]++
		x := extern(kind, int64(k.Intn(sizes[kind])))
		m.Imports, with = append(m.Imports, k.fitting(s, x, &m)), append(with, x)
	}
	if len(m.Types) > 0 {
		m.Funcs = some(k, 4, func() int64 { return int64(k.Intn(len(m.Types))) })
	}
	if seen[1] == 0 && k.Intn(2) == 0 {
		m.Tables = []impl.Limits{k.smallLimits(12)}
	}
	if seen[2] == 0 && k.Intn(3) == 0 {
		m.Mems = []impl.Limits{k.smallLimits(4)}
	}
	m.Globals = some(k, 3, func() impl.Global {
		ty := k.globalType()
		return impl.Global{Type: ty, Init: k.init(m.Imports, ty.Type)}
	})
	for range m.Funcs {
		m.Codes = append(m.Codes, impl.Code{Locals: some(k, 3, func() impl.Group { return impl.Group{N: int64(k.Intn(3)), Type: k.valueType()} })})
	}
	k.fillModule(&m)
	for _, e := range m.Elems {
		k.offset(e.Offset)
	}
	for _, d := range m.Datas {
		k.offset(d.Offset)
	}
	return m, with
}

// spoilLink changes what was made for a store, now and then.
func (k maker) spoilLink(s impl.Store, m impl.Module, with []impl.Extern) (impl.Store, impl.Module, []impl.Extern) {
	switch k.Intn(12) {
	case 0:
		with = spoiled(k, with)
	case 1:
		m = spoiled(k, m)
	case 2:
		s = spoiled(k, s)
	case 3:
		with = slices.Clone(with)
		for i := range with {
			with[i].Addr = k.near()
		}
	}
	return s, m, with
}

// TestLinkPromise links modules one after the other, each to what those ahead
// have made.
func TestLinkPromise(t *testing.T) {
	k := newMaker(91)
	seen := map[[2]int64]int{}
	for range 50 {
		s := pick(k, []impl.Store{impl.StoreNew(), fullStore(), userStore()})
		for range 40 {
			m, with := k.linkModule(s)
			given, m, with := k.spoilLink(s, m, with)
			r := checkLink(t, "made", given, m, with)
			seen[[2]int64{r.Err, r.Trap}]++
			if r.Err == impl.LkOk {
				s = r.Store
			}
		}
	}
	t.Logf("seen: %v", seen)
	for _, want := range [][2]int64{{0, 0}, {1, 0}, {2, 0}, {3, 0}, {4, 0}, {5, 0}, {6, 0}, {7, 5}, {7, 6}} {
		if seen[want] == 0 {
			t.Errorf("Err %d, Trap %d was not seen", want[0], want[1])
		}
	}
}

// linkedStore is one with some instances that share things.
func (k maker) linkedStore() impl.Store {
	s := pick(k, []impl.Store{impl.StoreNew(), fullStore(), userStore()})
	for range 1 + k.Intn(5) {
		m, with := k.linkModule(s)
		if r := impl.Instantiate(s, m, with); r.Err == impl.LkOk {
			s = r.Store
		}
	}
	return s
}

// TestStoreSpoiled changes stores at any place.
func TestStoreSpoiled(t *testing.T) {
	k := newMaker(92)
	seen := map[string]int{}
	for range 60 {
		s := k.linkedStore()
		before := copyOf(s)
		for range 150 {
			wrong := checkStore(t, "spoiled", spoiled(k, s))
			for _, sentence := range wrong {
				seen[sentence]++
			}
			if len(wrong) == 0 {
				seen[""]++
			}
		}
		if !same(s, before) {
			t.Fatalf("the tests changed what they were to keep")
		}
	}
	t.Logf("seen: %v", seen)
	for _, sentence := range []string{"", "hosts", "addresses", "a function's instance", "one result", "value types", "limits", "a max without", "few elems", "upper half", "kinds", "in", "told", "bodies"} {
		if seen[sentence] == 0 {
			t.Errorf("%q was not seen", sentence)
		}
	}
}

// TestFindAll asks for every export of linked stores, and for what is near.
func TestFindAll(t *testing.T) {
	k := newMaker(93)
	for range 60 {
		s := k.linkedStore()
		for inst, x := range s.Insts {
			for _, e := range x.Exports {
				if got := impl.Find(s, int64(inst), e.Name); got != extern(e.Kind, e.Index) {
					t.Errorf("%d, %q: %v", inst, e.Name, got)
				}
				if got := impl.Find(s, int64(inst), e.Name+"!"); got != extern(-1, 0) {
					t.Errorf("%d, %q: %v", inst, e.Name+"!", got)
				}
			}
		}
	}
}
