package tests

import (
	"math"
	"reflect"
	"slices"
	"testing"

	"loop.example/s00119/impl"
)

// ins is an instruction that is as in the table, with fields that are 0 where
// its form leaves the choice.
func ins(op int64) impl.Ins {
	x := impl.Ins{Op: op}
	if op >= 0x02 && op <= 0x04 {
		x.A = 0x40
	}
	return x
}

func insList(ops ...int64) []impl.Ins {
	var list []impl.Ins
	for _, op := range ops {
		list = append(list, ins(op))
	}
	return list
}

// around is a list that is closed if x is as in the table: x and what must
// stand around it.
func around(x impl.Ins) []impl.Ins {
	switch x.Op {
	case 0x02, 0x03, 0x04:
		return []impl.Ins{x, ins(0x0b), ins(0x0b)}
	case 0x05:
		return []impl.Ins{ins(0x04), x, ins(0x0b), ins(0x0b)}
	case 0x0b:
		return []impl.Ins{x}
	}
	return []impl.Ins{ins(0x01), x, ins(0x0b)}
}

// usedFields has the fields that each form uses.
func usedFields() map[int64]string {
	return map[int64]string{0: "", 1: "A", 2: "A", 3: "AL", 4: "A", 5: "AB", 6: "", 7: "V", 8: "V", 9: "V", 10: "V"}
}

// strayFields has instructions like x, each with one of the fields set that
// used does not name.
func strayFields(x impl.Ins, used string) []impl.Ins {
	var out []impl.Ins
	for _, field := range "ABVL" {
		for _, n := range []int64{1, 0x40, 0x7f, math.MaxUint32, 1 << 32, -1, math.MinInt64} {
			y := x
			switch field {
			case 'A':
				y.A = n
			case 'B':
				y.B = n
			case 'V':
				y.V = uint64(n)
			case 'L':
				y.L = []int64{n}
			}
			if !slices.Contains([]rune(used), field) {
				out = append(out, y)
			}
		}
		if field == 'L' && !slices.Contains([]rune(used), field) {
			y := x
			y.L = []int64{0}
			out = append(out, y)
		}
	}
	return out
}

func TestFieldsThatAFormDoesNotUse(t *testing.T) {
	for _, w := range allOps() {
		x := ins(w.op)
		if !impl.Closed(around(x)) {
			t.Errorf("%s: a plain one is refused", w.name)
		}
		x.L = []int64{}
		if !impl.Closed(around(x)) {
			t.Errorf("%s: an empty list is another than none", w.name)
		}
		for _, y := range strayFields(x, usedFields()[w.form]) {
			if impl.Closed(around(y)) {
				t.Errorf("%s: %+v is as in the table", w.name, y)
			}
		}
	}
}

func u32s() []int64 {
	return []int64{0, 1, 0x7f, 0x80, math.MaxInt32, 1 << 31, math.MaxUint32 - 1, math.MaxUint32}
}

func noU32s() []int64 {
	return []int64{1 << 32, 1<<32 + 1, 1 << 62, math.MaxInt64, -1, -2, math.MinInt32, -1 << 32, math.MinInt64 + 1, math.MinInt64}
}

func valueTypes() []int64 { return []int64{0x7f, 0x7e, 0x7d, 0x7c} }

// noTypes has numbers that are neither value types nor None.
func noTypes() []int64 {
	out := []int64{math.MinInt64, math.MaxInt64, 0x7f | 1<<8, 0x7f | 1<<32, 0x40 | 1<<32, 0x7c - 1<<32}
	for n := int64(-300); n < 300; n++ {
		if n != 0x40 && !slices.Contains(valueTypes(), n) {
			out = append(out, n)
		}
	}
	return out
}

func checkIns(t *testing.T, x impl.Ins, want bool) {
	t.Helper()
	if got := impl.Closed(around(x)); got != want {
		t.Errorf("%+v: %v", x, got)
	}
}

func TestFieldsThatAFormUses(t *testing.T) {
	for _, w := range allOps() {
		switch w.form {
		case 1:
			for _, a := range append(valueTypes(), 0x40) {
				checkIns(t, impl.Ins{Op: w.op, A: a}, true)
			}
			for _, a := range noTypes() {
				checkIns(t, impl.Ins{Op: w.op, A: a}, false)
			}
		case 2, 4:
			checkIndex(t, func(n int64) impl.Ins { return impl.Ins{Op: w.op, A: n} })
		case 3:
			checkIndex(t, func(n int64) impl.Ins { return impl.Ins{Op: w.op, A: n} })
			checkIndex(t, func(n int64) impl.Ins { return impl.Ins{Op: w.op, A: n, L: []int64{1, 2}} })
			for place := range 3 {
				checkIndex(t, func(n int64) impl.Ins {
					x := impl.Ins{Op: w.op, A: 5, L: []int64{0, math.MaxUint32, 7}}
					x.L[place] = n
					return x
				})
			}
		case 5:
			checkIndex(t, func(n int64) impl.Ins { return impl.Ins{Op: w.op, A: n, B: 3} })
			checkIndex(t, func(n int64) impl.Ins { return impl.Ins{Op: w.op, A: 3, B: n} })
		}
	}
}

func checkIndex(t *testing.T, of func(n int64) impl.Ins) {
	t.Helper()
	for _, n := range u32s() {
		checkIns(t, of(n), true)
	}
	for _, n := range noU32s() {
		checkIns(t, of(n), false)
	}
}

func TestConstantsUpperHalf(t *testing.T) {
	for _, op := range []int64{0x41, 0x42, 0x43, 0x44} {
		for _, v := range []uint64{0, 1, math.MaxInt32, 1 << 31, math.MaxUint32} {
			checkIns(t, impl.Ins{Op: op, V: v}, true)
		}
		wide := op == 0x42 || op == 0x44
		for _, v := range []uint64{1 << 32, 1<<32 + 1, 1 << 63, math.MaxUint64, 1<<63 - 1, 0xffffffff80000000} {
			checkIns(t, impl.Ins{Op: op, V: v}, wide)
		}
	}
}

func TestOpcodesThatAreNoneInLists(t *testing.T) {
	for _, op := range noOps() {
		if impl.Closed([]impl.Ins{{Op: op}, {Op: 0x0b}}) {
			t.Errorf("%x is an instruction", op)
		}
		if impl.Closed([]impl.Ins{{Op: op}}) || impl.Closed([]impl.Ins{{Op: 0x0b}, {Op: op}}) {
			t.Errorf("%x ends a list, or stands behind it", op)
		}
	}
}

// wantBlock reads the instructions of a block up to its end, by the grammar:
// the rest behind the end, and whether there was one. Behind an else comes what
// a block without one has.
func wantBlock(ops []int64, mayElse bool) ([]int64, bool) {
	for len(ops) > 0 {
		op := ops[0]
		ops = ops[1:]
		ok := true
		switch op {
		case 0x02, 0x03:
			ops, ok = wantBlock(ops, false)
		case 0x04:
			ops, ok = wantBlock(ops, true)
		case 0x05:
			if !mayElse {
				return nil, false
			}
			return wantBlock(ops, false)
		case 0x0b:
			return ops, true
		}
		if !ok {
			return nil, false
		}
	}
	return nil, false
}

func wantClosed(ops []int64) bool {
	rest, ok := wantBlock(ops, false)
	return ok && len(rest) == 0
}

// everyShortList has all lists of at most seven instructions, each a nop or one
// that opens or ends a block.
func everyShortList(do func(ops []int64)) {
	alphabet := []int64{0x01, 0x02, 0x03, 0x04, 0x05, 0x0b}
	for size := range 8 {
		ops := make([]int64, size)
		count := int(math.Pow(float64(len(alphabet)), float64(size)))
		for number := range count {
			for i := range ops {
				ops[i] = alphabet[number%len(alphabet)]
				number /= len(alphabet)
			}
			do(ops)
		}
	}
}

func TestEveryShortList(t *testing.T) {
	closed := 0
	everyShortList(func(ops []int64) {
		want := wantClosed(ops)
		if got := impl.Closed(insList(ops...)); got != want {
			t.Fatalf("%x: %v", ops, got)
		}
		if want {
			closed++
		}
	})
	if closed < 500 {
		t.Errorf("only %d lists were closed", closed)
	}
}

func TestListsByHand(t *testing.T) {
	rows := []struct {
		ops  []int64
		want bool
	}{
		{nil, false},
		{[]int64{0x0b}, true},
		{[]int64{0x01}, false},
		{[]int64{0x01, 0x0b}, true},
		{[]int64{0x0b, 0x01}, false},
		{[]int64{0x0b, 0x0b}, false},
		{[]int64{0x02, 0x0b}, false},
		{[]int64{0x03, 0x02, 0x0b, 0x0b}, false},
		{[]int64{0x02, 0x0b, 0x0b, 0x0b}, false},
		{[]int64{0x05, 0x0b}, false},
		{[]int64{0x02, 0x05, 0x0b, 0x0b}, false},
		{[]int64{0x03, 0x05, 0x0b, 0x0b}, false},
		{[]int64{0x04, 0x0b, 0x05, 0x0b}, false},
		{[]int64{0x04, 0x05, 0x0b, 0x0b}, true},
		{[]int64{0x04, 0x05, 0x05, 0x0b, 0x0b}, false},
		{[]int64{0x04, 0x02, 0x05, 0x0b, 0x0b, 0x0b}, false},
		{[]int64{0x04, 0x02, 0x0b, 0x05, 0x0b, 0x0b}, true},
		{[]int64{0x04, 0x05, 0x03, 0x05, 0x0b, 0x0b, 0x0b}, false},
		{[]int64{0x04, 0x04, 0x05, 0x0b, 0x05, 0x0b, 0x0b}, true},
		{[]int64{0x04, 0x05, 0x04, 0x05, 0x0b, 0x0b, 0x0b}, true},
		{[]int64{0x04, 0x05, 0x04, 0x05, 0x0b, 0x05, 0x0b, 0x0b}, false},
	}
	for _, r := range rows {
		if got := impl.Closed(insList(r.ops...)); got != r.want {
			t.Errorf("%x: %v", r.ops, got)
		}
	}
	if !impl.Closed([]impl.Ins{{Op: 0x0b, L: []int64{}}}) || impl.Closed([]impl.Ins{}) {
		t.Errorf("an empty list is another than nil")
	}
}

func TestDeepLists(t *testing.T) {
	const depth = 100000
	deep := append(slices.Repeat(insList(0x02, 0x04), depth/2), slices.Repeat(insList(0x0b), depth+1)...)
	if !impl.Closed(deep) {
		t.Errorf("a deep list is refused")
	}
	if impl.Closed(deep[:len(deep)-1]) || impl.Closed(append(slices.Clone(deep), ins(0x0b))) {
		t.Errorf("a deep list with an end too few or too many")
	}
}

func TestClosedLeavesItsArgument(t *testing.T) {
	list := []impl.Ins{ins(0x04), {Op: 0x0e, L: []int64{3, 1, 2}, A: 7}, ins(0x05), {Op: 0x41, V: 9}, ins(0x0b), ins(0x0b)}
	again := []impl.Ins{ins(0x04), {Op: 0x0e, L: []int64{3, 1, 2}, A: 7}, ins(0x05), {Op: 0x41, V: 9}, ins(0x0b), ins(0x0b)}
	if !impl.Closed(list) || !reflect.DeepEqual(list, again) {
		t.Errorf("%+v", list)
	}
}
