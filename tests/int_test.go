package tests

import (
	"math"
	"math/big"
	"math/rand"
	"testing"

	"loop.example/s00119/impl"
)

// intOp is a line of chapter 2: an operation with its opcodes in both widths
// (-1 where there is none).
type intOp struct {
	name   string
	narrow int64
	wide   int64
}

func unaryOps() []intOp {
	return []intOp{
		{"eqz", 0x45, 0x50}, {"clz", 0x67, 0x79}, {"ctz", 0x68, 0x7a}, {"popcnt", 0x69, 0x7b},
		{"wrap", -1, 0xa7}, {"extend_s", -1, 0xac}, {"extend_u", -1, 0xad},
	}
}

func shiftOps() []intOp {
	return []intOp{
		{"shl", 0x74, 0x86}, {"shr_s", 0x75, 0x87}, {"shr_u", 0x76, 0x88},
		{"rotl", 0x77, 0x89}, {"rotr", 0x78, 0x8a},
	}
}

func binaryOps() []intOp {
	return append(shiftOps(), []intOp{
		{"eq", 0x46, 0x51}, {"ne", 0x47, 0x52},
		{"lt_s", 0x48, 0x53}, {"lt_u", 0x49, 0x54}, {"gt_s", 0x4a, 0x55}, {"gt_u", 0x4b, 0x56},
		{"le_s", 0x4c, 0x57}, {"le_u", 0x4d, 0x58}, {"ge_s", 0x4e, 0x59}, {"ge_u", 0x4f, 0x5a},
		{"add", 0x6a, 0x7c}, {"sub", 0x6b, 0x7d}, {"mul", 0x6c, 0x7e},
		{"div_s", 0x6d, 0x7f}, {"div_u", 0x6e, 0x80}, {"rem_s", 0x6f, 0x81}, {"rem_u", 0x70, 0x82},
		{"and", 0x71, 0x83}, {"or", 0x72, 0x84}, {"xor", 0x73, 0x85},
	}...)
}

// intSpot is an operation in one width.
type intSpot struct {
	name  string
	op    int64
	width uint
}

func spotsOf(ops []intOp) []intSpot {
	var out []intSpot
	for _, o := range ops {
		if o.narrow >= 0 {
			out = append(out, intSpot{o.name, o.narrow, 32})
		}
		if o.wide >= 0 {
			out = append(out, intSpot{o.name, o.wide, 64})
		}
	}
	return out
}

func powerOf2(n uint) *big.Int { return new(big.Int).Lsh(big.NewInt(1), n) }

// asUnsigned and asSigned are the numbers that the lowest width bits of x stand for.
func asUnsigned(x uint64, width uint) *big.Int {
	return new(big.Int).Mod(new(big.Int).SetUint64(x), powerOf2(width))
}

func asSigned(x uint64, width uint) *big.Int {
	n := asUnsigned(x, width)
	if n.Cmp(powerOf2(width-1)) >= 0 {
		n.Sub(n, powerOf2(width))
	}
	return n
}

// asVal writes a number modulo 2^width.
func asVal(n *big.Int, width uint) impl.NumRes {
	return impl.NumRes{Ok: true, Val: new(big.Int).Mod(n, powerOf2(width)).Uint64()}
}

func asFlag(yes bool) impl.NumRes {
	if yes {
		return impl.NumRes{Ok: true, Val: 1}
	}
	return impl.NumRes{Ok: true}
}

func wantUnary(o intSpot, a uint64) impl.NumRes {
	n := asUnsigned(a, o.width)
	count := int64(0)
	switch o.name {
	case "eqz":
		return asFlag(n.Sign() == 0)
	case "clz":
		for i := int(o.width) - 1; i >= 0 && n.Bit(i) == 0; i-- {
			count++
		}
	case "ctz":
		for i := 0; i < int(o.width) && n.Bit(i) == 0; i++ {
			count++
		}
	case "popcnt":
		for i := 0; i < int(o.width); i++ {
			count += int64(n.Bit(i))
		}
	case "wrap", "extend_u":
		return asVal(asUnsigned(a, 32), 64)
	case "extend_s":
		return asVal(asSigned(a, 32), 64)
	}
	return asVal(big.NewInt(count), o.width)
}

func wantBinary(o intSpot, a, b uint64) impl.NumRes {
	ua, ub := asUnsigned(a, o.width), asUnsigned(b, o.width)
	sa, sb := asSigned(a, o.width), asSigned(b, o.width)
	unsigned, signed := ua.Cmp(ub), sa.Cmp(sb)
	switch o.name {
	case "eq":
		return asFlag(unsigned == 0)
	case "ne":
		return asFlag(unsigned != 0)
	case "lt_s":
		return asFlag(signed < 0)
	case "lt_u":
		return asFlag(unsigned < 0)
	case "gt_s":
		return asFlag(signed > 0)
	case "gt_u":
		return asFlag(unsigned > 0)
	case "le_s":
		return asFlag(signed <= 0)
	case "le_u":
		return asFlag(unsigned <= 0)
	case "ge_s":
		return asFlag(signed >= 0)
	case "ge_u":
		return asFlag(unsigned >= 0)
	case "add":
		return asVal(ua.Add(ua, ub), o.width)
	case "sub":
		return asVal(ua.Sub(ua, ub), o.width)
	case "mul":
		return asVal(ua.Mul(ua, ub), o.width)
	case "and":
		return asVal(ua.And(ua, ub), o.width)
	case "or":
		return asVal(ua.Or(ua, ub), o.width)
	case "xor":
		return asVal(ua.Xor(ua, ub), o.width)
	case "div_s", "rem_s":
		return wantDivide(o, sa, sb, o.name == "div_s")
	case "div_u", "rem_u":
		return wantDivide(o, ua, ub, o.name == "div_u")
	}
	return wantShift(o, ua, sa, uint(new(big.Int).Mod(ub, big.NewInt(int64(o.width))).Uint64()))
}

func wantDivide(o intSpot, a, b *big.Int, quotient bool) impl.NumRes {
	if b.Sign() == 0 {
		return impl.NumRes{Ok: true, Trap: impl.TrapDivide}
	}
	q, r := new(big.Int).QuoRem(a, b, new(big.Int))
	if !quotient {
		return asVal(r, o.width)
	}
	if o.name == "div_s" && q.Cmp(powerOf2(o.width-1)) == 0 {
		return impl.NumRes{Ok: true, Trap: impl.TrapOverflow}
	}
	return asVal(q, o.width)
}

// wantShift takes shifts as products with powers of 2, and turns as two of them.
func wantShift(o intSpot, ua, sa *big.Int, k uint) impl.NumRes {
	left := func(n *big.Int, k uint) *big.Int { return new(big.Int).Mul(n, powerOf2(k)) }
	right := func(n *big.Int, k uint) *big.Int { return new(big.Int).Div(n, powerOf2(k)) }
	switch o.name {
	case "shl":
		return asVal(left(ua, k), o.width)
	case "shr_s":
		return asVal(right(sa, k), o.width)
	case "shr_u":
		return asVal(right(ua, k), o.width)
	case "rotl":
		return asVal(new(big.Int).Add(left(ua, k), right(ua, o.width-k)), o.width)
	}
	return asVal(new(big.Int).Add(right(ua, k), left(ua, o.width-k)), o.width)
}

// edgeWords has the edges of both widths, shifts about the width and its
// multiples, and numbers whose upper half is another one's.
func edgeWords() []uint64 {
	var out []uint64
	for _, middle := range []uint64{0, 1 << 31, 1 << 32, 1 << 33, 1 << 63, 32, 64, 96, 128, 256} {
		for d := uint64(0); d < 3; d++ {
			out = append(out, middle+d, middle-d-1)
		}
	}
	for _, low := range []uint64{0, 1, 31, 32, 33, 1<<31 - 1, 1 << 31, 1<<32 - 1} {
		out = append(out, low|0xffffffff<<32, low|0x80000000<<32, low|0x12345678<<32)
	}
	for i := 2; i < 64; i += 3 {
		out = append(out, 1<<i, ^uint64(1<<i))
	}
	return append(out, 0x5555555555555555, 0xaaaaaaaaaaaaaaaa, 0x0123456789abcdef, 0xfedcba9876543210)
}

func randomWords(seed int64, n int) []uint64 {
	r := rand.New(rand.NewSource(seed))
	out := make([]uint64, n)
	for i := range out {
		out[i] = r.Uint64() >> (r.Intn(3) * r.Intn(64))
	}
	return out
}

func TestInt1IsThatOfTheNumbers(t *testing.T) {
	words := append(edgeWords(), randomWords(1, 2000)...)
	for i := 0; i < 64; i++ {
		words = append(words, 1<<i, 1<<i-1, -(uint64(1) << i), ^uint64(1<<i))
	}
	for _, o := range spotsOf(unaryOps()) {
		for _, a := range words {
			if got, want := impl.Int1(o.op, a), wantUnary(o, a); got != want {
				t.Fatalf("%s %d (%#x) of %#x: got %+v, want %+v", o.name, o.width, o.op, a, got, want)
			}
		}
	}
}

func checkInt2(t *testing.T, o intSpot, a, b uint64) {
	t.Helper()
	if got, want := impl.Int2(o.op, a, b), wantBinary(o, a, b); got != want {
		t.Fatalf("%s %d (%#x) of %#x, %#x: got %+v, want %+v", o.name, o.width, o.op, a, b, got, want)
	}
}

func TestInt2AtAllEdges(t *testing.T) {
	words := edgeWords()
	for _, o := range spotsOf(binaryOps()) {
		for _, a := range words {
			for _, b := range words {
				checkInt2(t, o, a, b)
			}
		}
	}
}

func TestInt2AtRandomNumbers(t *testing.T) {
	left, right := randomWords(2, 1000), randomWords(3, 1000)
	for _, o := range spotsOf(binaryOps()) {
		for i := range left {
			checkInt2(t, o, left[i], right[i])
			checkInt2(t, o, left[i], left[i])
		}
	}
}

func TestShiftsByEveryCount(t *testing.T) {
	for _, o := range spotsOf(shiftOps()) {
		for b := uint64(0); b < 300; b++ {
			for _, a := range []uint64{1, 0x80000001, 1<<63 | 1, 0xfedcba9876543210, 0x7fffffff7fffffff, math.MaxUint64} {
				checkInt2(t, o, a, b)
				checkInt2(t, o, a, -b)
				checkInt2(t, o, a, b|0xabcdef01<<32)
			}
		}
	}
}

// The answers of the document's own words, written out.
func TestIntAnswersByHand(t *testing.T) {
	const least32, least64 = uint64(1) << 31, uint64(1) << 63
	const minus32, minus64 = uint64(math.MaxUint32), uint64(math.MaxUint64)
	val := func(x uint64) impl.NumRes { return impl.NumRes{Ok: true, Val: x} }
	trap := func(x int64) impl.NumRes { return impl.NumRes{Ok: true, Trap: x} }
	rows := []struct {
		op   int64
		a, b uint64
		want impl.NumRes
	}{
		{0x6d, least32, minus32, trap(3)}, {0x7f, least64, minus64, trap(3)},
		{0x6d, least32, minus64, trap(3)}, {0x6d, least32 | 5<<32, minus32, trap(3)},
		{0x7f, least32, minus32, val(0)}, {0x7f, least32, minus64, val(1<<64 - 1<<31)},
		{0x6f, least32, minus32, val(0)}, {0x81, least64, minus64, val(0)},
		{0x6e, least32, minus32, val(0)}, {0x80, least64, minus64, val(0)},
		{0x70, least32, minus32, val(least32)}, {0x82, least64, minus64, val(least64)},
		{0x6d, 7, 0, trap(2)}, {0x6e, 7, 0, trap(2)}, {0x6f, 7, 0, trap(2)}, {0x70, 7, 0, trap(2)},
		{0x7f, 7, 0, trap(2)}, {0x80, 7, 0, trap(2)}, {0x81, 7, 0, trap(2)}, {0x82, 7, 0, trap(2)},
		{0x6d, 7, 1 << 32, trap(2)}, {0x80, 7, 1 << 32, val(0)}, {0x6d, least32, 0, trap(2)},
		{0x7f, minus64 - 6, 2, val(minus64 - 2)}, {0x81, minus64 - 6, 2, val(minus64)}, {0x81, 7, minus64 - 1, val(1)},
		{0x74, 1, 32, val(1)}, {0x86, 1, 32, val(1 << 32)}, {0x86, 1, 64, val(1)}, {0x74, 3, 31, val(least32)},
		{0x75, least32, 32, val(least32)}, {0x75, least32, 63, val(minus32)}, {0x87, least64, 63, val(minus64)},
		{0x75, minus64 &^ least32, 4, val(0x07ffffff)}, {0x76, minus64, 4, val(0x0fffffff)},
		{0x77, 0x80000001, 0, val(0x80000001)}, {0x78, 0x80000001, 32, val(0x80000001)},
		{0x77, 0xff00000080000000, 1, val(1)}, {0x78, 0xff00000000000001, 1, val(least32)},
		{0x6a, minus64, minus64, val(minus32 - 1)}, {0x6c, minus32, minus32, val(1)}, {0x7e, minus32, minus32, val(0xfffffffe00000001)},
		{0x4c, minus32, 0, val(1)}, {0x4d, minus32, 0, val(0)}, {0x57, minus32, 0, val(0)}, {0x73, minus64, 1, val(minus32 - 1)},
	}
	for i, r := range rows {
		if got := impl.Int2(r.op, r.a, r.b); got != r.want {
			t.Errorf("row %d: got %+v, want %+v", i, got, r.want)
		}
	}
}

// Where neither traps, the quotient times b and the remainder come to a, the
// remainder is nearer to 0 than b, and has no other sign than a.
func TestDivisionAndRemainderBelongTogether(t *testing.T) {
	words := append(edgeWords(), randomWords(4, 60)...)
	pairs := []struct {
		div, rem int64
		width    uint
		number   func(uint64, uint) *big.Int
	}{
		{0x6d, 0x6f, 32, asSigned}, {0x7f, 0x81, 64, asSigned},
		{0x6e, 0x70, 32, asUnsigned}, {0x80, 0x82, 64, asUnsigned},
	}
	for _, p := range pairs {
		for _, a := range words {
			for _, b := range words {
				q, r := impl.Int2(p.div, a, b), impl.Int2(p.rem, a, b)
				nb := p.number(b, p.width)
				if (nb.Sign() == 0) != (q.Trap == impl.TrapDivide) || (nb.Sign() == 0) != (r.Trap == impl.TrapDivide) {
					t.Fatalf("%#x, %#x of %#x, %#x: %+v, %+v", p.div, p.rem, a, b, q, r)
				}
				if q.Trap != impl.TrapNone || r.Trap != impl.TrapNone {
					continue
				}
				na, nq, nr := p.number(a, p.width), p.number(q.Val, p.width), p.number(r.Val, p.width)
				sum := new(big.Int).Add(new(big.Int).Mul(nq, nb), nr)
				if sum.Cmp(na) != 0 || nr.CmpAbs(nb) >= 0 || nr.Sign()*na.Sign() < 0 {
					t.Fatalf("%#x, %#x of %#x, %#x: %+v, %+v", p.div, p.rem, a, b, q, r)
				}
			}
		}
	}
}

func TestUpperHalvesAreNotLookedAt(t *testing.T) {
	for _, high := range []uint64{1, 0x80000000, 0xffffffff, 0x12345678} {
		for _, a := range []uint64{0, 1, 7, 1 << 31, 1<<32 - 1} {
			for _, o := range unaryOps()[:4] {
				if got, want := impl.Int1(o.narrow, a|high<<32), impl.Int1(o.narrow, a); got != want || got.Val>>32 != 0 {
					t.Errorf("%s of %#x with %#x above: got %+v, want %+v", o.name, a, high, got, want)
				}
			}
			for _, o := range binaryOps() {
				for _, b := range []uint64{0, 1, 2, 31, 32, 1 << 31, 1<<32 - 1} {
					got, want := impl.Int2(o.narrow, a|high<<32, b|(high^0xffff)<<32), impl.Int2(o.narrow, a, b)
					if got != want || got.Val>>32 != 0 {
						t.Errorf("%s of %#x, %#x with %#x above: got %+v, want %+v", o.name, a, b, high, got, want)
					}
				}
			}
		}
	}
}

func TestOtherOpcodesAreNone(t *testing.T) {
	one, two := map[int64]bool{}, map[int64]bool{}
	for _, o := range spotsOf(unaryOps()) {
		one[o.op] = true
	}
	for _, o := range spotsOf(binaryOps()) {
		two[o.op] = true
	}
	if len(one) != 11 || len(two) != 50 {
		t.Fatalf("%d and %d opcodes in the lists", len(one), len(two))
	}
	ops := []int64{math.MinInt64, math.MinInt64 + 0x6a, math.MinInt64 + 0xa7, math.MaxInt64, math.MaxInt64 - 0x50}
	for op := int64(-1000); op <= 1000; op++ {
		ops = append(ops, op, op+1<<31, op+1<<32, op-1<<32, op+1<<56)
	}
	for _, op := range ops {
		for _, a := range []uint64{0, 1, 5, math.MaxUint64} {
			got := impl.Int1(op, a)
			if got.Ok != one[op] || !one[op] && got != (impl.NumRes{}) {
				t.Fatalf("Int1 %#x of %#x: %+v", op, a, got)
			}
			got = impl.Int2(op, a, a^1)
			if got.Ok != two[op] || !two[op] && got != (impl.NumRes{}) {
				t.Fatalf("Int2 %#x of %#x, %#x: %+v", op, a, a^1, got)
			}
		}
	}
}
