package tests

import (
	"math"
	"math/big"
	"testing"

	"loop.example/s00119/impl"
)

// toInt and ofInt are the lines of Convert between floats and integers.
type intConversion struct {
	op     int64
	f      floatShape
	width  uint
	signed bool
}

func toIntSpots() []intConversion {
	return []intConversion{
		{0xa8, single, 32, true}, {0xa9, single, 32, false}, {0xaa, double, 32, true}, {0xab, double, 32, false},
		{0xae, single, 64, true}, {0xaf, single, 64, false}, {0xb0, double, 64, true}, {0xb1, double, 64, false},
	}
}

func ofIntSpots() []intConversion {
	return []intConversion{
		{0xb2, single, 32, true}, {0xb3, single, 32, false}, {0xb4, single, 64, true}, {0xb5, single, 64, false},
		{0xb7, double, 32, true}, {0xb8, double, 32, false}, {0xb9, double, 64, true}, {0xba, double, 64, false},
	}
}

// ends are the least and the greatest integer.
func (c intConversion) ends() (least, greatest *big.Int) {
	one := big.NewInt(1)
	if !c.signed {
		return big.NewInt(0), new(big.Int).Sub(powerOf2(c.width), one)
	}
	return new(big.Int).Neg(powerOf2(c.width - 1)), new(big.Int).Sub(powerOf2(c.width-1), one)
}

func (c intConversion) wantInt(a uint64) impl.NumRes {
	if c.f.isNan(a) {
		return impl.NumRes{Ok: true, Trap: impl.TrapConvert}
	}
	n := new(big.Int).Quo(c.f.value(a), powerOf2(refScale))
	least, greatest := c.ends()
	if c.f.isInf(a) || n.Cmp(least) < 0 || n.Cmp(greatest) > 0 {
		return impl.NumRes{Ok: true, Trap: impl.TrapOverflow}
	}
	return asVal(n, c.width)
}

func checkConvert(t *testing.T, op int64, a uint64, want impl.NumRes) {
	t.Helper()
	if got := impl.Convert(op, a); got != want {
		t.Fatalf("%#x of %#x: got %+v (%#x), want %+v (%#x)", op, a, got, got.Val, want, want.Val)
	}
}

// nearTo are the floats around an integer, within a few steps.
func (f floatShape) nearTo(n *big.Int) []uint64 {
	at := f.round(new(big.Int).Lsh(n, refScale), big.NewInt(1))
	out := []uint64{}
	for d := uint64(0); d < 4; d++ {
		out = append(out, (at+d)&f.mask(), (at-d)&f.mask())
	}
	return out
}

func TestTruncationsAtTheEndsOfTheIntegers(t *testing.T) {
	for _, c := range toIntSpots() {
		least, greatest := c.ends()
		for d := int64(-3); d <= 3; d++ {
			for _, end := range []*big.Int{least, greatest, big.NewInt(0), big.NewInt(-1), big.NewInt(1)} {
				for _, a := range c.f.nearTo(new(big.Int).Add(end, big.NewInt(d))) {
					checkConvert(t, c.op, a, c.wantInt(a))
					checkConvert(t, c.op, a^c.f.sign(), c.wantInt(a^c.f.sign()))
				}
			}
		}
	}
}

// Just below -1 and just above the greatest, by the least step that the wide
// format has beside an end of 32 bits: the step is far below 1.
func TestTruncationsOfFractionsBesideTheEnds(t *testing.T) {
	for _, c := range toIntSpots() {
		least, greatest := c.ends()
		for _, end := range []*big.Int{least, greatest, new(big.Int).Sub(least, big.NewInt(1)), new(big.Int).Add(greatest, big.NewInt(1))} {
			exact := new(big.Int).Lsh(end, refScale)
			half := powerOf2(refScale - 1)
			for _, n := range []*big.Int{new(big.Int).Add(exact, half), new(big.Int).Sub(exact, half), exact} {
				at := c.f.round(n, big.NewInt(1))
				for _, a := range []uint64{at - 2, at - 1, at, at + 1, at + 2} {
					checkConvert(t, c.op, a&c.f.mask(), c.wantInt(a&c.f.mask()))
				}
			}
		}
	}
}

func TestTruncations(t *testing.T) {
	for _, c := range toIntSpots() {
		numbers := append(c.f.wholeEdges(), c.f.numbers(31, 5000)...)
		for k := uint64(0); k < 70; k++ {
			at := c.f.one() + k<<c.f.fraction
			numbers = append(numbers, at-1, at, at+1, at|c.f.sign(), (at-1)|c.f.sign(), (at+1)|c.f.sign())
		}
		for _, a := range numbers {
			checkConvert(t, c.op, a, c.wantInt(a))
		}
	}
}

func (c intConversion) wantFloat(a uint64) impl.NumRes {
	n := asUnsigned(a, c.width)
	if c.signed {
		n = asSigned(a, c.width)
	}
	return impl.NumRes{Ok: true, Val: c.f.round(n.Lsh(n, refScale), big.NewInt(1))}
}

// integerEdges are those at which rounding is tight: k bits, then places just
// between two numbers of k bits, and beside them.
func integerEdges() []uint64 {
	out := append(edgeWords(), randomWords(32, 2000)...)
	for top := 20; top < 64; top++ {
		for _, precision := range []int{24, 53} {
			if top < precision {
				out = append(out, 1<<top, 1<<top-1, 1<<top+1)
				continue
			}
			last := uint64(1) << (top - precision + 1)
			for _, m := range []uint64{0, 1, 2, 3, 1<<(precision-1) - 2, 1<<(precision-1) - 1} {
				between := 1<<top + m*last + last/2
				out = append(out, between-1, between, between+1, -between, -between-1, 1-between)
			}
		}
	}
	return out
}

func TestIntegersAreRoundedOnce(t *testing.T) {
	for _, c := range ofIntSpots() {
		for _, a := range integerEdges() {
			checkConvert(t, c.op, a, c.wantFloat(a))
		}
	}
}

// An integer that the format holds comes back as it was, by either way of
// telling its sign.
func TestIntegersComeBack(t *testing.T) {
	pairs := [][2]int64{{0xb7, 0xaa}, {0xb8, 0xab}, {0xb7, 0xb0}, {0xb8, 0xb1}}
	for _, a := range append(integerEdges(), randomWords(33, 5000)...) {
		for i, p := range pairs {
			want := uint64(uint32(a))
			if i == 2 {
				want = uint64(int32(a))
			}
			checkConvert(t, p[1], impl.Convert(p[0], a).Val, impl.NumRes{Ok: true, Val: want})
		}
		short := a >> 11
		checkConvert(t, 0xb1, impl.Convert(0xba, short).Val, impl.NumRes{Ok: true, Val: short})
		checkConvert(t, 0xb0, impl.Convert(0xb9, -short).Val, impl.NumRes{Ok: true, Val: -short})
		short = a >> 40
		checkConvert(t, 0xa9, impl.Convert(0xb3, short).Val, impl.NumRes{Ok: true, Val: short})
		checkConvert(t, 0xae, impl.Convert(0xb4, -short).Val, impl.NumRes{Ok: true, Val: -short})
	}
}

// Every upper half of the bits of f32, with lower halves at the edges: all
// exponents, all subnormal lengths.
func TestPromotionAndBackLosesNothing(t *testing.T) {
	for high := uint64(0); high < 1<<16; high++ {
		for _, low := range []uint64{0, 1, 2, 0x5555, 0x7fff, 0x8000, 0x8001, 0xfffe, 0xffff} {
			a := high<<16 | low
			there := impl.Convert(0xbb, a)
			back := impl.Convert(0xb6, there.Val)
			wide, narrow := uint64(impl.Nan64), uint64(impl.Nan32)
			if !single.isNan(a) {
				wide, narrow = math.Float64bits(float64(math.Float32frombits(uint32(a)))), a
			}
			if there != (impl.NumRes{Ok: true, Val: wide}) || back != (impl.NumRes{Ok: true, Val: narrow}) {
				t.Fatalf("%#x: %+v, %+v", a, there, back)
			}
		}
	}
}

func TestPromotionIsExact(t *testing.T) {
	for _, a := range append(single.edges(), single.numbers(34, 3000)...) {
		got := impl.Convert(0xbb, a)
		if !single.isNan(a) && !single.isInf(a) && double.value(got.Val).Cmp(single.value(a)) != 0 {
			t.Fatalf("%#x: %+v", a, got)
		}
	}
}

func wantDemote(a uint64) uint64 {
	switch {
	case double.isNan(a):
		return single.nan
	case double.isInf(a):
		return single.infinity() | a>>63<<31
	}
	v := double.value(a)
	return single.round(v.Abs(v), big.NewInt(1)) | a>>63<<31
}

func TestDemotionIsRoundedOnce(t *testing.T) {
	numbers := append(double.edges(), double.numbers(35, 2000)...)
	for _, a := range append(single.edges(), single.numbers(36, 1000)...) {
		if single.isNan(a) || single.isInf(a) {
			continue
		}
		wide := impl.Convert(0xbb, a).Val
		next := impl.Convert(0xbb, a+1).Val
		middle := math.Float64bits((math.Float64frombits(wide) + math.Float64frombits(next)) / 2)
		numbers = append(numbers, wide-1, wide, wide+1, middle-1, middle, middle+1)
	}
	for e := uint64(800); e < 1200; e++ {
		numbers = append(numbers, e<<52, e<<52|1, e<<52|1<<51, e<<52|(1<<52-1), e<<52|1<<28|1<<63, e<<52|3<<28)
	}
	for _, a := range numbers {
		checkConvert(t, 0xb6, a, impl.NumRes{Ok: true, Val: wantDemote(a)})
		machine := uint64(math.Float32bits(float32(math.Float64frombits(a))))
		checkConvert(t, 0xb6, a, impl.NumRes{Ok: true, Val: single.oneNan(machine)})
	}
}

func TestReinterpretationKeepsTheBits(t *testing.T) {
	for _, a := range append(append(single.edges(), double.edges()...), edgeWords()...) {
		for _, op := range []int64{0xbc, 0xbe} {
			checkConvert(t, op, a, impl.NumRes{Ok: true, Val: uint64(uint32(a))})
		}
		for _, op := range []int64{0xbd, 0xbf} {
			checkConvert(t, op, a, impl.NumRes{Ok: true, Val: a})
		}
	}
}

func TestConvertUpperHalvesAreNotLookedAt(t *testing.T) {
	words := append(single.edges(), 1<<31-1, 1<<31, 1<<32-1, 16777217)
	for _, op := range []int64{0xa8, 0xa9, 0xae, 0xaf, 0xb2, 0xb3, 0xb7, 0xb8, 0xbb, 0xbc, 0xbe} {
		for _, high := range []uint64{1 << 32, 1 << 63, 0xffffffff << 32, 0x7ff80000 << 32} {
			for _, a := range words {
				checkConvert(t, op, a|high, impl.Convert(op, a))
			}
		}
	}
	for _, op := range []int64{0xa8, 0xa9, 0xaa, 0xab, 0xb2, 0xb3, 0xb4, 0xb5, 0xb6, 0xbc, 0xbe} {
		for _, a := range append(double.edges(), edgeWords()...) {
			if got := impl.Convert(op, a); got.Val>>32 != 0 {
				t.Fatalf("%#x of %#x: %+v", op, a, got)
			}
		}
	}
}

// The answers of the document's own words, written out.
func TestFloatAnswersByHand(t *testing.T) {
	const minus32, minus64 = uint64(1) << 31, uint64(1) << 63
	rows := []struct {
		op   int64
		a, b uint64
		want uint64
	}{
		{0x92, 0x3f800000, 0x33800000, 0x3f800000}, // 1 + 2^-24: the even one below
		{0x92, 0x3f800001, 0x33800000, 0x3f800002}, // 1 + 2^-23 + 2^-24: the even one above
		{0x92, 0x3f800000, 0x33800001, 0x3f800001}, // just above the middle
		{0x92, 0x3f800001, 0x337fffff, 0x3f800001}, // just below it
		{0x92, 0x3fffffff, 0x33800000, 0x40000000}, // into the next exponent
		{0x92, 0x7f7fffff, 0x73000000, 0x7f800000}, // half of a last bit beyond the greatest
		{0x92, 0x7f7fffff, 0x72ffffff, 0x7f7fffff}, // less than half
		{0x92, 0x007fffff, 0x00000001, 0x00800000}, // into the normal numbers
		{0x93, 0x00800000, 0x00000001, 0x007fffff}, // and out of them
		{0x94, 0x007fffff, 0x3f800001, 0x00800000}, // by rounding
		{0x94, 0x00000001, 0x3f000001, 0x00000001}, // just above half of the least
		{0x95, 0x00000001, 0x40000000, 0},          // half of the least
		{0x95, 0x80000003, 0x40000000, 0x80000002}, // 1.5 of the least
		{0x93, 0, 0, 0},                                              // 0 - 0
		{0x93, minus32, 0, minus32},                                  // -0 - 0
		{0x93, 0xbf800000, 0xbf800000, 0},                            // what cancels has no sign
		{0x94, minus32, 0x3f800000, minus32},                         // -0 by 1
		{0x95, minus32, 0xff800000, 0},                               // -0 / -inf
		{0x95, 0xff800000, minus32, 0x7f800000},                      // -inf / -0
		{0xa0, 0x3ff0000000000000, 0x3ca0000000000000, 1023<<52 | 0}, // 1 + 2^-53
		{0xa0, 0x3ff0000000000001, 0x3ca0000000000000, 1023<<52 | 2},
		{0xa2, 0x7fefffffffffffff, 0x3ff0000000000001, 0x7ff0000000000000},
		{0xa3, 0x0010000000000000, 0x4000000000000000, 0x0008000000000000},
		{0xa3, 1, 0x4000000000000000, 0}, {0xa3, 3, 0x4000000000000000, 2},
		{0xa1, minus64, 0, minus64}, {0xa1, 0, 0, 0}, {0xa0, 0, minus64, 0},
		{0xa4, 0, minus64, minus64}, {0xa4, minus64, 0, minus64}, {0xa5, 0, minus64, 0}, {0xa5, minus64, 0, 0},
		{0x96, 0xbf800000, minus32, 0xbf800000}, {0x97, 0xbf800000, minus32, minus32},
		{0x97, 0x7f800000, 0x7f800001, impl.Nan32}, {0xa4, 0xfff0000000000001, 1, impl.Nan64},
		{0x98, 0x3f800000, 0xffc00000, 0xbf800000}, {0xa6, 0xfff0000000000001, 0, 0x7ff0000000000001},
		{0x61, 0, minus64, 1}, {0x62, 0, minus64, 0}, {0x63, minus64, 0, 0}, {0x64, 0, minus64, 0}, {0x65, 0, minus64, 1}, {0x66, minus64, 0, 1},
		{0x5c, impl.Nan32, 0, 1}, {0x5f, impl.Nan32, impl.Nan32, 0}, {0x60, impl.Nan32, impl.Nan32, 0},
		{0x5f, 0xff800000, 0xff7fffff, 1}, {0x5d, 0x7f7fffff, 0x7f800000, 1},
	}
	for i, r := range rows {
		if got := impl.Float2(r.op, r.a, r.b); got != (impl.NumRes{Ok: true, Val: r.want}) {
			t.Errorf("row %d: got %+v (%#x), want %#x", i, got, got.Val, r.want)
		}
	}
	ones := []struct {
		op      int64
		a, want uint64
	}{
		{0x8d, 0xbf7fffff, minus32}, {0x8d, 1, 0x3f800000}, {0x8e, 0x80000001, 0xbf800000}, {0x8e, 0x3f7fffff, 0},
		{0x8f, 0xbf7fffff, minus32}, {0x8f, 0x40600000, 0x40400000}, {0x8d, minus32, minus32}, {0x8e, minus32, minus32},
		{0x90, 0x3f000000, 0}, {0x90, 0x3f7fffff, 0x3f800000}, {0x90, 0x3fc00000, 0x40000000}, {0x90, 0xc0200000, 0xc0000000},
		{0x90, 0x4affffff, 0x4b000000}, {0x90, 0x4afffffd, 0x4afffffc}, {0x90, 0x4b000001, 0x4b000001},
		{0x9e, 0x3fe0000000000000, 0}, {0x9e, 0x3fdfffffffffffff, 0}, {0x9e, 0x3fe0000000000001, 0x3ff0000000000000},
		{0x9e, 0x432fffffffffffff, 0x4330000000000000}, {0x9e, 0xbfe0000000000000, minus64},
		{0x91, 0x40800000, 0x40000000}, {0x91, 0x3f7fffff, 0x3f7fffff}, {0x91, 0x80000001, impl.Nan32}, {0x91, 0xff800000, impl.Nan32},
		{0x91, 0x7f800000, 0x7f800000}, {0x9f, minus64, minus64}, {0x9f, 1, 0x1e60000000000000}, {0x9f, 0xbff0000000000000, impl.Nan64},
		{0x8b, 0xffffffff, 0x7fffffff}, {0x9a, 0x7ff0000000000001, 0xfff0000000000001},
	}
	for i, r := range ones {
		if got := impl.Float1(r.op, r.a); got != (impl.NumRes{Ok: true, Val: r.want}) {
			t.Errorf("row %d of one: got %+v (%#x), want %#x", i, got, got.Val, r.want)
		}
	}
}

func TestConvertAnswersByHand(t *testing.T) {
	val := func(x uint64) impl.NumRes { return impl.NumRes{Ok: true, Val: x} }
	nan, over := impl.NumRes{Ok: true, Trap: 4}, impl.NumRes{Ok: true, Trap: 3}
	rows := []struct {
		op   int64
		a    uint64
		want impl.NumRes
	}{
		{0xa8, 0x4effffff, val(0x7fffff80)}, {0xa8, 0x4f000000, over}, {0xa8, 0xcf000000, val(0x80000000)}, {0xa8, 0xcf000001, over},
		{0xa9, 0x4f7fffff, val(0xffffff00)}, {0xa9, 0x4f800000, over}, {0xa9, 0x80000000, val(0)}, {0xa9, 0x80000001, val(0)},
		{0xaa, 0x41dfffffffffffff, val(0x7fffffff)}, {0xab, 0x41efffffffffffff, val(0xffffffff)}, {0xab, 0x41f0000000000000, over},
		{0xab, 0xbfefffffffffffff, val(0)}, {0xab, 0xbff0000000000000, over},
		{0xae, 0x5effffff, val(0x7fffff8000000000)}, {0xae, 0x5f000000, over}, {0xae, 0xdf000001, over}, {0xaf, 0x5f800000, over},
		{0xb0, 0x43dfffffffffffff, val(0x7ffffffffffffc00)}, {0xb0, 0x43e0000000000000, over},
		{0xb0, 0xc3e0000000000000, val(1 << 63)}, {0xb0, 0xc3e0000000000001, over}, {0xb1, 0x43efffffffffffff, val(0xfffffffffffff800)},
		{0xa8, 0xff800000, over}, {0xa9, 0xffffffff, nan}, {0xaa, 0x7ff0000000000001, nan}, {0xab, 0xfff0000000000000, over},
		{0xae, 0x7f800001, nan}, {0xaf, 0x7f800000, over}, {0xb0, 0xfff8000000000000, nan}, {0xb1, 0x7ff0000000000000, over},
		{0xb2, 0x7fffffff, val(0x4f000000)}, {0xb2, 0x80000000, val(0xcf000000)}, {0xb3, 16777219, val(0x4b800002)}, {0xb2, 0, val(0)},
		{0xb4, 0x7fffffffffffffff, val(0x5f000000)}, {0xb4, 1<<64 - 1, val(0xbf800000)}, {0xb5, 0x8000008000000001, val(0x5f000001)},
		{0xb5, 0x8000008000000000, val(0x5f000000)}, {0xb9, 1<<53 + 1, val(0x4340000000000000)}, {0xb9, 1<<53 + 3, val(0x4340000000000002)},
		{0xb7, 0xffffffff, val(0xbff0000000000000)}, {0xb8, 0xffffffff80000000, val(0x41e0000000000000)},
		{0xb6, 0x47efffffefffffff, val(0x7f7fffff)}, {0xb6, 0x47effffff0000000, val(0x7f800000)}, {0xb6, 0x3810000000000000, val(0x00800000)},
		{0xb6, 0x380fffffe0000000, val(0x00800000)}, {0xb6, 0x3690000000000001, val(1)}, {0xb6, 0x8000000000000001, val(0x80000000)},
		{0xb6, 0x7ff0000000000001, val(impl.Nan32)}, {0xbb, 0xffc00000, val(impl.Nan64)}, {0xbb, 0xff800000, val(0xfff0000000000000)},
		{0xbb, 0x80000000, val(1 << 63)}, {0xbb, 0x007fffff, val(0x380fffffc0000000)},
	}
	for i, r := range rows {
		if got := impl.Convert(r.op, r.a); got != r.want {
			t.Errorf("row %d: got %+v (%#x), want %+v (%#x)", i, got, got.Val, r.want, r.want.Val)
		}
	}
}
