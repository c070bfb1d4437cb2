package tests

import (
	"math"
	"math/big"
	"math/rand"
	"sort"

	"loop.example/s00119/impl"
)

// floatShape is a format as IEEE 754 gives it: by the width of its parts.
type floatShape struct {
	name               string
	exponent, fraction uint
	nan                uint64
}

var single = floatShape{"f32", 8, 23, impl.Nan32}
var double = floatShape{"f64", 11, 52, impl.Nan64}

// refScale: every float of both formats, and the middle of any two neighbours,
// is a whole number of parts of 2^-refScale.
const refScale = 1076

func (f floatShape) width() uint      { return 1 + f.exponent + f.fraction }
func (f floatShape) sign() uint64     { return 1 << (f.exponent + f.fraction) }
func (f floatShape) infinity() uint64 { return (1<<f.exponent - 1) << f.fraction }
func (f floatShape) mask() uint64     { return f.sign() | (f.sign() - 1) }
func (f floatShape) one() uint64      { return (1<<(f.exponent-1) - 1) << f.fraction }

func (f floatShape) isNan(a uint64) bool { return a&^f.sign()&f.mask() > f.infinity() }

func (f floatShape) isInf(a uint64) bool { return a&^f.sign()&f.mask() == f.infinity() }

// magnitude is the number of a pattern without sign, in parts; that of the
// infinity is where the next number would lie, if exponents went on.
func (f floatShape) magnitude(a uint64) *big.Int {
	e, m := a>>f.fraction, a&(1<<f.fraction-1)
	bias := uint64(1)<<(f.exponent-1) - 1
	if e == 0 {
		e = 1
	} else {
		m |= 1 << f.fraction
	}
	return new(big.Int).Lsh(new(big.Int).SetUint64(m), uint(refScale+e-bias-uint64(f.fraction)))
}

func (f floatShape) value(a uint64) *big.Int {
	a &= f.mask()
	v := f.magnitude(a &^ f.sign())
	if a&f.sign() != 0 {
		v.Neg(v)
	}
	return v
}

// nearest finds the pattern whose number lies nearest to an exact one that is
// not negative and told only by compare, which holds a number against it. The
// patterns stand in the order of their numbers, so that no exponent is looked
// at here.
func (f floatShape) nearest(compare func(v *big.Int) int) uint64 {
	above := sort.Search(int(f.infinity()), func(i int) bool {
		return compare(f.magnitude(uint64(i)+1)) > 0
	})
	low := uint64(above)
	if low == f.infinity() {
		return low
	}
	middle := new(big.Int).Add(f.magnitude(low), f.magnitude(low+1))
	c := compare(middle.Rsh(middle, 1))
	if c < 0 || c == 0 && low%2 == 1 {
		return low + 1
	}
	return low
}

// round is the float nearest to num / den, in parts; a zero has no sign.
func (f floatShape) round(num, den *big.Int) uint64 {
	sign := uint64(0)
	if num.Sign()*den.Sign() < 0 {
		sign = f.sign()
	}
	n, d := new(big.Int).Abs(num), new(big.Int).Abs(den)
	return sign | f.nearest(func(v *big.Int) int { return new(big.Int).Mul(v, d).Cmp(n) })
}

func (f floatShape) rootOf(a uint64) uint64 {
	square := new(big.Int).Lsh(f.value(a), refScale)
	return f.nearest(func(v *big.Int) int { return new(big.Int).Mul(v, v).Cmp(square) })
}

// exact2 is an operation on numbers of which none is infinite, and no divisor
// is zero; a result of exactly zero has the sign that is handed in.
func (f floatShape) exact2(name string, a, b uint64, zero uint64) uint64 {
	x, y := f.value(a), f.value(b)
	one, parts := big.NewInt(1), powerOf2(refScale)
	num, den := new(big.Int), one
	switch name {
	case "add":
		num.Add(x, y)
	case "sub":
		num.Sub(x, y)
	case "mul":
		num.Mul(x, y)
		den = parts
	case "div":
		num.Mul(x, parts)
		den = y
	}
	if num.Sign() == 0 {
		return zero
	}
	return f.round(num, den)
}

// want2 is add, sub, mul or div, with the cases that IEEE 754 tells one by one.
func (f floatShape) want2(name string, a, b uint64) uint64 {
	a, b = a&f.mask(), b&f.mask()
	if f.isNan(a) || f.isNan(b) {
		return f.nan
	}
	if name == "sub" {
		return f.want2("add", a, b^f.sign())
	}
	sign := (a ^ b) & f.sign()
	zeroA, zeroB := a&^f.sign() == 0, b&^f.sign() == 0
	if name == "add" {
		switch {
		case f.isInf(a) && f.isInf(b) && sign != 0:
			return f.nan
		case f.isInf(a):
			return a
		case f.isInf(b):
			return b
		}
		both := uint64(0)
		if zeroA && zeroB {
			both = a & b
		}
		return f.exact2(name, a, b, both)
	}
	if name == "div" {
		switch {
		case f.isInf(a) && f.isInf(b), zeroA && zeroB:
			return f.nan
		case f.isInf(b):
			return sign
		case f.isInf(a), zeroB:
			return sign | f.infinity()
		}
		return f.exact2(name, a, b, sign)
	}
	switch {
	case f.isInf(a) && zeroB, zeroA && f.isInf(b):
		return f.nan
	case f.isInf(a), f.isInf(b):
		return sign | f.infinity()
	}
	return f.exact2(name, a, b, sign)
}

// wantWhole is a rounding to a whole number, by division of the parts.
func (f floatShape) wantWhole(name string, a uint64) uint64 {
	a &= f.mask()
	if f.isNan(a) {
		return f.nan
	}
	if f.isInf(a) {
		return a
	}
	parts := powerOf2(refScale)
	floor, rest := new(big.Int).DivMod(f.value(a), parts, new(big.Int))
	twice := new(big.Int).Lsh(rest, 1).Cmp(parts)
	up := false
	switch name {
	case "ceil":
		up = rest.Sign() != 0
	case "trunc":
		up = rest.Sign() != 0 && a&f.sign() != 0
	case "nearest":
		up = twice > 0 || twice == 0 && floor.Bit(0) == 1
	}
	if up {
		floor.Add(floor, big.NewInt(1))
	}
	if floor.Sign() == 0 {
		return a & f.sign()
	}
	return f.round(floor.Lsh(floor, refScale), big.NewInt(1))
}

// edges are the numbers at which a format has an edge, with both signs, and
// NaNs of all kinds.
func (f floatShape) edges() []uint64 {
	first := uint64(1) << f.fraction
	one := f.one()
	out := []uint64{
		0, 1, 2, 3, 4, first/2 - 1, first / 2, first/2 + 1,
		first - 2, first - 1, first, first + 1, 2*first - 1, 2 * first, 2*first + 1,
		f.infinity() - 2, f.infinity() - 1, f.infinity() - first, f.infinity() - first - 1, f.infinity(),
		one / 2, one/2 + first/2, one + one/2,
		one - first - 1, one - first, one - first + 1, one - first/2, one - 2, one - 1, one, one + 1, one + 2, one + 3,
		one + first/2 - 1, one + first/2, one + first/2 + 1, one + first - 1, one + first, one + first + 1,
		one + first + first/2, one + first + first/4, one + 2*first + first/8, one + 3*first + first/4,
	}
	for _, k := range []uint64{uint64(f.fraction) - 1, uint64(f.fraction), uint64(f.fraction) + 1, uint64(f.fraction) + 2, 31, 32, 63, 64} {
		at := one + k*first
		out = append(out, at-1, at, at+1, one-k*first, one-k*first+1)
	}
	nan := []uint64{f.infinity() + 1, f.infinity() + first/2, f.infinity() + first/2 + 5, f.infinity() + first/4, f.infinity() + first - 1}
	out = append(out, nan...)
	for _, a := range out {
		out = append(out, a|f.sign())
	}
	return out
}

// numbers are random floats of which many lie near to each other, have few
// bits, or are subnormal: there are the ties and the sums that cancel.
func (f floatShape) numbers(seed int64, n int) []uint64 {
	r := rand.New(rand.NewSource(seed))
	out := make([]uint64, n)
	for i := range out {
		a := r.Uint64() & f.mask()
		fraction := a & (1<<f.fraction - 1)
		switch r.Intn(4) {
		case 0:
			a = f.one() + uint64(r.Intn(7))<<f.fraction - 3<<f.fraction + fraction
		case 1:
			fraction = fraction >> (f.fraction / 2) << (f.fraction / 2)
			a = f.one() + uint64(r.Intn(60))<<f.fraction - 30<<f.fraction + fraction
		case 2:
			a = a & (1<<(f.fraction+1) - 1) >> r.Intn(int(f.fraction))
		}
		out[i] = a&^f.sign() | r.Uint64()&f.sign()
	}
	return out
}

// machine2 is the operation as the processor does it.
func (f floatShape) machine2(name string, a, b uint64) uint64 {
	if f.width() == 32 {
		x, y := math.Float32frombits(uint32(a)), math.Float32frombits(uint32(b))
		return f.oneNan(uint64(math.Float32bits(machineDo(name, x, y))))
	}
	return f.oneNan(math.Float64bits(machineDo(name, math.Float64frombits(a), math.Float64frombits(b))))
}

func machineDo[F float32 | float64](name string, x, y F) F {
	switch name {
	case "add":
		return x + y
	case "sub":
		return x - y
	case "mul":
		return x * y
	}
	return x / y
}

func (f floatShape) oneNan(a uint64) uint64 {
	if f.isNan(a) {
		return f.nan
	}
	return a
}
