package tests

import (
	"math"
	"testing"

	"loop.example/s00119/impl"
)

// floatSpot is a line of the lists of chapter 3, in one format.
type floatSpot struct {
	name string
	op   int64
	f    floatShape
}

// floatSpots gives the operations of a list, whose opcodes of f32 and of f64
// each stand in a row.
func floatSpots(narrow, wide int64, names ...string) []floatSpot {
	var out []floatSpot
	for i, name := range names {
		out = append(out, floatSpot{name, narrow + int64(i), single}, floatSpot{name, wide + int64(i), double})
	}
	return out
}

func signSpots() []floatSpot { return floatSpots(0x8b, 0x99, "abs", "neg") }

func wholeSpots() []floatSpot {
	return floatSpots(0x8d, 0x9b, "ceil", "floor", "trunc", "nearest")
}

func rootSpots() []floatSpot { return floatSpots(0x91, 0x9f, "sqrt") }

func compareSpots() []floatSpot {
	return floatSpots(0x5b, 0x61, "eq", "ne", "lt", "gt", "le", "ge")
}

func sumSpots() []floatSpot { return floatSpots(0x92, 0xa0, "add", "sub", "mul", "div") }

func pickSpots() []floatSpot { return floatSpots(0x96, 0xa4, "min", "max") }

func copySpots() []floatSpot { return floatSpots(0x98, 0xa6, "copysign") }

func checkFloat1(t *testing.T, o floatSpot, a, want uint64) {
	t.Helper()
	if got := impl.Float1(o.op, a); got != (impl.NumRes{Ok: true, Val: want}) {
		t.Fatalf("%s.%s (%#x) of %#x: got %+v (%#x), want %#x", o.f.name, o.name, o.op, a, got, got.Val, want)
	}
}

func checkFloat2(t *testing.T, o floatSpot, a, b, want uint64) {
	t.Helper()
	if got := impl.Float2(o.op, a, b); got != (impl.NumRes{Ok: true, Val: want}) {
		t.Fatalf("%s.%s (%#x) of %#x, %#x: got %+v (%#x), want %#x", o.f.name, o.name, o.op, a, b, got, got.Val, want)
	}
}

func TestSumsAreExactAndRoundedOnceAtAllEdges(t *testing.T) {
	for _, o := range sumSpots() {
		for _, a := range o.f.edges() {
			for _, b := range o.f.edges() {
				checkFloat2(t, o, a, b, o.f.machine2(o.name, a, b))
			}
		}
		for i, a := range o.f.edges() {
			for k, b := range o.f.edges() {
				if (i+k)%4 == 0 {
					checkFloat2(t, o, a, b, o.f.want2(o.name, a, b))
				}
			}
		}
	}
}

func TestSumsAreExactAndRoundedOnceAtRandomNumbers(t *testing.T) {
	for _, o := range sumSpots() {
		left, right := o.f.numbers(11, 100000), o.f.numbers(12, 100000)
		for i, a := range left {
			checkFloat2(t, o, a, right[i], o.f.machine2(o.name, a, right[i]))
		}
		for i, a := range left[:2000] {
			checkFloat2(t, o, a, right[i], o.f.want2(o.name, a, right[i]))
		}
	}
}

// A number and half of its last bit, and what lies just beside: the sums go to
// the even number below, to the even one above, and not by a hair.
func TestSumsAtPlacesBetweenTwoNumbers(t *testing.T) {
	for _, o := range sumSpots()[:4] {
		f := o.f
		first := uint64(1) << f.fraction
		for e := uint64(f.fraction) + 2; e < f.infinity()>>f.fraction; e += 13 {
			half := (e - uint64(f.fraction) - 1) << f.fraction
			for _, m := range []uint64{0, 1, 2, 3, first/2 - 1, first / 2, first - 2, first - 1} {
				a := e<<f.fraction | m
				for _, b := range []uint64{half - 1, half, half + 1, half + first/2, half + first, half - first, half + first + first/2} {
					for _, s := range []uint64{0, f.sign()} {
						checkFloat2(t, o, a, b^s, f.want2(o.name, a, b^s))
						checkFloat2(t, o, b, a^s, f.want2(o.name, b, a^s))
					}
				}
			}
		}
	}
}

// Neighbours of all sizes: what is left is small and exact.
func TestSumsThatCancel(t *testing.T) {
	for _, o := range sumSpots()[:4] {
		f := o.f
		for _, a := range append(f.edges(), f.numbers(13, 3000)...) {
			for d := uint64(0); d < 4; d++ {
				b := (a + d) & f.mask()
				checkFloat2(t, o, a, b, f.machine2(o.name, a, b))
				checkFloat2(t, o, a, b^f.sign(), f.machine2(o.name, a, b^f.sign()))
				checkFloat2(t, o, b, a, f.machine2(o.name, b, a))
			}
		}
	}
}

func TestRootsAreExactAndRoundedOnce(t *testing.T) {
	for _, o := range rootSpots() {
		f := o.f
		numbers := append(f.edges(), f.numbers(14, 3000)...)
		for m := uint64(0); m < 200; m++ {
			small := f.round(f.value(m+1), powerOf2(0))
			square := f.want2("mul", f.one()+m, f.one()+m)
			numbers = append(numbers, small, square-1, square, square+1, square+(1<<f.fraction), f.one()+m, f.one()-m-1)
		}
		for _, a := range numbers {
			want := f.nan
			switch {
			case f.isNan(a):
			case a&^f.sign() == 0, a == f.infinity():
				want = a
			case a&f.sign() == 0:
				want = f.rootOf(a)
			}
			checkFloat1(t, o, a, want)
		}
	}
}

func TestRootsAreThoseOfTheMachine(t *testing.T) {
	for _, a := range double.numbers(15, 30000) {
		checkFloat1(t, rootSpots()[1], a, double.oneNan(math.Float64bits(math.Sqrt(math.Float64frombits(a)))))
	}
	// The root in 53 bits is enough to round it once more to 24.
	for _, a := range single.numbers(16, 30000) {
		root := float32(math.Sqrt(float64(math.Float32frombits(uint32(a)))))
		checkFloat1(t, rootSpots()[0], a, single.oneNan(uint64(math.Float32bits(root))))
	}
}

// wholeEdges are whole numbers, halves and their neighbours, small ones and
// ones up to where a format has no more halves.
func (f floatShape) wholeEdges() []uint64 {
	out := f.edges()
	half := f.one() - 1<<f.fraction
	for k := uint64(0); k <= uint64(f.fraction)+3; k++ {
		bit := uint64(1) << f.fraction
		if k <= uint64(f.fraction) {
			bit >>= k
		}
		at := half + k<<f.fraction
		for _, a := range []uint64{at, at + bit, at | (1<<f.fraction - 1), at | (1<<f.fraction-1)&^(bit-1)} {
			for d := uint64(0); d < 3; d++ {
				out = append(out, a+d, a-d, (a+d)|f.sign(), (a-d)|f.sign())
			}
		}
	}
	return append(out, f.numbers(17, 5000)...)
}

func TestWholeNumbers(t *testing.T) {
	for _, o := range wholeSpots() {
		for _, a := range o.f.wholeEdges() {
			checkFloat1(t, o, a, o.f.wantWhole(o.name, a))
		}
	}
}

func TestWholeNumbersAreThoseOfTheMachine(t *testing.T) {
	ways := map[string]func(float64) float64{
		"ceil": math.Ceil, "floor": math.Floor, "trunc": math.Trunc, "nearest": math.RoundToEven,
	}
	for _, o := range wholeSpots() {
		for _, a := range o.f.wholeEdges() {
			want := math.Float64bits(ways[o.name](math.Float64frombits(a)))
			if o.f.width() == 32 {
				want = uint64(math.Float32bits(float32(ways[o.name](float64(math.Float32frombits(uint32(a)))))))
			}
			checkFloat1(t, o, a, o.f.oneNan(want))
		}
	}
}

func TestSignsAloneAreTouched(t *testing.T) {
	for _, o := range signSpots() {
		for _, a := range append(o.f.edges(), o.f.numbers(18, 1000)...) {
			want := a &^ o.f.sign()
			if o.name == "neg" {
				want = a ^ o.f.sign()
			}
			checkFloat1(t, o, a, want)
		}
	}
	for _, o := range copySpots() {
		for _, a := range o.f.edges() {
			for _, b := range o.f.edges() {
				checkFloat2(t, o, a, b, a&^o.f.sign()|b&o.f.sign())
			}
		}
	}
}

// wantHolds holds two numbers against each other by their exact values; the
// infinities count as the numbers that would come behind the greatest.
func (f floatShape) wantHolds(name string, a, b uint64) bool {
	if f.isNan(a) || f.isNan(b) {
		return name == "ne"
	}
	c := f.value(a).Cmp(f.value(b))
	return map[string]bool{"eq": c == 0, "ne": c != 0, "lt": c < 0, "gt": c > 0, "le": c <= 0, "ge": c >= 0}[name]
}

func TestComparisons(t *testing.T) {
	for _, o := range compareSpots() {
		left, right := o.f.numbers(19, 2000), o.f.numbers(20, 2000)
		for i, a := range left {
			checkFloat2(t, o, a, right[i], asFlag(o.f.wantHolds(o.name, a, right[i])).Val)
			checkFloat2(t, o, a, a, asFlag(o.f.wantHolds(o.name, a, a)).Val)
		}
		for _, a := range o.f.edges() {
			for _, b := range o.f.edges() {
				checkFloat2(t, o, a, b, asFlag(o.f.wantHolds(o.name, a, b)).Val)
			}
		}
	}
}

func (f floatShape) wantPick(name string, a, b uint64) uint64 {
	if f.isNan(a) || f.isNan(b) {
		return f.nan
	}
	c := f.value(a).Cmp(f.value(b))
	if c == 0 && a&f.sign() != 0 {
		c = -1
	}
	if (c < 0) == (name == "min") {
		return a
	}
	return b
}

func TestMinAndMax(t *testing.T) {
	for _, o := range pickSpots() {
		for _, a := range append(o.f.edges(), o.f.numbers(21, 30)...) {
			for _, b := range append(o.f.edges(), o.f.numbers(22, 30)...) {
				checkFloat2(t, o, a, b, o.f.wantPick(o.name, a, b))
			}
		}
	}
}

func TestEveryNanBecomesTheOne(t *testing.T) {
	ones := append(wholeSpots(), rootSpots()...)
	twos := append(sumSpots(), pickSpots()...)
	for _, f := range []floatShape{single, double} {
		for _, nan := range f.edges() {
			if !f.isNan(nan) {
				continue
			}
			for _, o := range ones {
				if o.f == f {
					checkFloat1(t, o, nan, f.nan)
				}
			}
			for _, o := range twos {
				for _, b := range f.edges() {
					if o.f == f {
						checkFloat2(t, o, nan, b, f.nan)
						checkFloat2(t, o, b, nan, f.nan)
					}
				}
			}
		}
	}
}

func TestFloatUpperHalvesAreNotLookedAt(t *testing.T) {
	for _, high := range []uint64{1 << 32, 1 << 63, 0xffffffff << 32, 0x7ff80000 << 32} {
		for _, a := range single.edges() {
			for op := int64(0x8b); op <= 0x91; op++ {
				if got, want := impl.Float1(op, a|high), impl.Float1(op, a); got != want || got.Val>>32 != 0 {
					t.Fatalf("%#x of %#x with %#x above: got %+v, want %+v", op, a, high, got, want)
				}
			}
			for _, o := range append(append(compareSpots(), sumSpots()...), append(pickSpots(), copySpots()...)...) {
				if o.f != single {
					continue
				}
				b := single.edges()[a%40]
				got, want := impl.Float2(o.op, a|high, b|high^1<<40), impl.Float2(o.op, a, b)
				if got != want || got.Val>>32 != 0 {
					t.Fatalf("%#x of %#x, %#x with %#x above: got %+v, want %+v", o.op, a, b, high, got, want)
				}
			}
		}
	}
}

func TestOtherFloatOpcodesAreNone(t *testing.T) {
	one, two, three := map[int64]bool{}, map[int64]bool{}, map[int64]bool{}
	for i := int64(0); i < 7; i++ {
		one[0x8b+i], one[0x99+i], two[0x92+i], two[0xa0+i] = true, true, true, true
	}
	for op := int64(0x5b); op <= 0x66; op++ {
		two[op] = true
	}
	for op := int64(0xa8); op <= 0xbf; op++ {
		three[op] = op != 0xac && op != 0xad
	}
	ops := []int64{math.MinInt64, math.MinInt64 + 0x92, math.MinInt64 + 0xa8, math.MaxInt64, math.MaxInt64 - 0x50}
	for op := int64(-1000); op <= 1000; op++ {
		ops = append(ops, op, op+1<<31, op+1<<32, op-1<<32, op+1<<56)
	}
	for _, op := range ops {
		for _, a := range []uint64{0, 1, 0x40400000, 0xc008000000000000, math.MaxUint64} {
			for i, got := range []impl.NumRes{impl.Float1(op, a), impl.Float2(op, a, a^1), impl.Convert(op, a)} {
				in := []bool{one[op], two[op], three[op]}[i]
				if got.Ok != in || !in && got != (impl.NumRes{}) || i < 2 && got.Trap != 0 {
					t.Fatalf("function %d, %#x of %#x: %+v", i, op, a, got)
				}
			}
		}
	}
}
