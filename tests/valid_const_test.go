package tests

import (
	"math"
	"reflect"
	"slices"
	"testing"

	"loop.example/s00119/impl"
)

func TestConstOf(t *testing.T) {
	end := ins(0x0b)
	globals := []uint64{4, math.MaxUint64, 6}
	rows := []struct {
		init    []impl.Ins
		globals []uint64
		want    uint64
	}{
		{nil, nil, 0},
		{nil, globals, 0},
		{[]impl.Ins{}, globals, 0},
		{[]impl.Ins{end}, globals, 0},
		{[]impl.Ins{{Op: 0x41, V: 7}, end}, nil, 7},
		{[]impl.Ins{{Op: 0x41, V: math.MaxUint32}, end}, globals, math.MaxUint32},
		{[]impl.Ins{{Op: 0x42, V: math.MaxUint64}, end}, nil, math.MaxUint64},
		{[]impl.Ins{{Op: 0x42, V: 1 << 63}, end}, globals, 1 << 63},
		{[]impl.Ins{{Op: 0x43, V: 0xff800001}, end}, nil, 0xff800001},
		{[]impl.Ins{{Op: 0x44, V: 0xfff0000000000001}, end}, nil, 0xfff0000000000001},
		{[]impl.Ins{{Op: 0x23, A: 0}, end}, globals, 4},
		{[]impl.Ins{{Op: 0x23, A: 1}, end}, globals, math.MaxUint64},
		{[]impl.Ins{{Op: 0x23, A: 2}, end}, globals, 6},
		{[]impl.Ins{{Op: 0x23, A: 3}, end}, globals, 0},
		{[]impl.Ins{{Op: 0x23, A: math.MaxUint32}, end}, globals, 0},
		{[]impl.Ins{{Op: 0x23, A: -1}, end}, globals, 0},
		{[]impl.Ins{{Op: 0x23, A: math.MinInt64}, end}, globals, 0},
		{[]impl.Ins{{Op: 0x23, A: math.MaxInt64}, end}, globals, 0},
		{[]impl.Ins{{Op: 0x23, A: 1 << 32}, end}, globals, 0},
		{[]impl.Ins{{Op: 0x23}, end}, nil, 0},
		{[]impl.Ins{{Op: 0x23}, end}, []uint64{}, 0},
		{[]impl.Ins{{Op: 0x41, V: 7}, {Op: 0x41, V: 8}, end}, nil, 7},
		{[]impl.Ins{{Op: 0x41, V: 7}}, nil, 7},
		{[]impl.Ins{{Op: 0x01}, {Op: 0x41, V: 8}, end}, globals, 0},
		{[]impl.Ins{end, {Op: 0x41, V: 8}}, globals, 0},
		{[]impl.Ins{{Op: 0x41, V: 1<<32 | 9}, end}, nil, 9},
		{[]impl.Ins{{Op: 0x43, V: math.MaxUint64}, end}, nil, math.MaxUint32},
	}
	for i, r := range rows {
		if got := impl.ConstOf(r.init, r.globals); got != r.want {
			t.Errorf("row %d: %d, want %d", i, got, r.want)
		}
	}
	if !reflect.DeepEqual(globals, []uint64{4, math.MaxUint64, 6}) {
		t.Errorf("the argument was written to")
	}
}

func TestConstOfOtherOpcodes(t *testing.T) {
	ops := noOps()
	for _, w := range allOps() {
		ops = append(ops, w.op)
	}
	for _, op := range ops {
		want := uint64(0)
		switch op {
		case 0x23:
			want = 22
		case 0x41, 0x42, 0x43, 0x44:
			want = 33
		}
		if got := impl.ConstOf([]impl.Ins{{Op: op, A: 1, V: 33}, ins(0x0b)}, []uint64{11, 22}); got != want {
			t.Errorf("%x: %d, want %d", op, got, want)
		}
	}
}

func TestTypeEq(t *testing.T) {
	types := []impl.FuncType{
		{},
		funcType("i32 ->"), funcType("i64 ->"), funcType("f32 ->"), funcType("f64 ->"),
		funcType("-> i32"), funcType("-> i64"), funcType("-> f32"), funcType("-> f64"),
		funcType("i32 -> i32"), funcType("i32 -> i64"), funcType("i64 -> i32"),
		funcType("i32 i32 ->"), funcType("i32 i64 ->"), funcType("i64 i32 ->"), funcType("i32 i32 i32 ->"),
		funcType("i32 i64 -> f32"), funcType("i32 i64 -> f64"), funcType("i64 i32 -> f32"), funcType("i32 -> f32"),
		{Results: []int64{0x7f, 0x7f}}, {Params: []int64{0}}, {Params: []int64{-1}, Results: []int64{7}},
	}
	for i, a := range types {
		for j, b := range types {
			copied := impl.FuncType{Params: slices.Clone(b.Params), Results: slices.Clone(b.Results)}
			if got := impl.TypeEq(a, copied); got != (i == j) {
				t.Errorf("%v and %v: %v", a, b, got)
			}
		}
	}
	empty := impl.FuncType{Params: []int64{}, Results: []int64{}}
	if !impl.TypeEq(empty, impl.FuncType{}) || !impl.TypeEq(impl.FuncType{}, empty) {
		t.Errorf("an empty list is another than nil")
	}
}

func TestLimitsFit(t *testing.T) {
	numbers := []int64{0, 1, 2, 3, 65536, math.MaxUint32}
	var all []impl.Limits
	for _, least := range numbers {
		all = append(all, impl.Limits{Min: least})
		for _, most := range numbers {
			all = append(all, impl.Limits{Min: least, Max: most, HasMax: true})
		}
	}
	for _, have := range all {
		for _, want := range all {
			fits := have.Min >= want.Min
			if want.HasMax {
				fits = fits && have.HasMax && have.Max <= want.Max
			}
			if got := impl.LimitsFit(have, want); got != fits {
				t.Errorf("%+v for %+v: %v", have, want, got)
			}
		}
	}
	rows := []struct {
		have, want impl.Limits
		fits       bool
	}{
		{impl.Limits{Min: 2}, impl.Limits{Min: 2}, true},
		{impl.Limits{Min: 3}, impl.Limits{Min: 2}, true},
		{impl.Limits{Min: 1}, impl.Limits{Min: 2}, false},
		{impl.Limits{Min: 2, Max: 4, HasMax: true}, impl.Limits{Min: 2}, true},
		{impl.Limits{Min: 2}, impl.Limits{Min: 2, Max: 4, HasMax: true}, false},
		{impl.Limits{Min: 2, Max: 4, HasMax: true}, impl.Limits{Min: 2, Max: 4, HasMax: true}, true},
		{impl.Limits{Min: 2, Max: 3, HasMax: true}, impl.Limits{Min: 2, Max: 4, HasMax: true}, true},
		{impl.Limits{Min: 2, Max: 5, HasMax: true}, impl.Limits{Min: 2, Max: 4, HasMax: true}, false},
		{impl.Limits{Min: 1, Max: 3, HasMax: true}, impl.Limits{Min: 2, Max: 4, HasMax: true}, false},
		{impl.Limits{}, impl.Limits{HasMax: true}, false},
		{impl.Limits{HasMax: true}, impl.Limits{HasMax: true}, true},
		{impl.Limits{Min: math.MinInt64}, impl.Limits{Min: math.MaxInt64}, false},
		{impl.Limits{Min: math.MaxInt64}, impl.Limits{Min: math.MinInt64}, true},
	}
	for i, r := range rows {
		if got := impl.LimitsFit(r.have, r.want); got != r.fits {
			t.Errorf("row %d: %v", i, got)
		}
	}
}
