package tests

import (
	"bytes"
	"math"
	"math/big"
	"math/bits"
	"math/rand"
	"testing"

	"loop.example/s00119/impl"
)

// badWidths are none of 1..64, so they count as 64.
var badWidths = []int64{0, -1, -7, -64, 65, 66, 70, 128, 1 << 32, math.MaxInt64, math.MinInt64}

func allWidths() []int64 {
	out := append([]int64{}, badWidths...)
	for w := int64(1); w <= 64; w++ {
		out = append(out, w)
	}
	return out
}

// lebWant reads as the document's chapter 1 says, bit after bit and with
// numbers that have no width of their own.
func lebWant(b []byte, at int64, width int64, signed bool) impl.LebRes {
	size := int64(len(b))
	if width < 1 || width > 64 {
		width = 64
	}
	if at < 0 || at > size {
		return impl.LebRes{Err: impl.LebShort, Next: size}
	}
	last := (width+6)/7 - 1
	sum := new(big.Int)
	for k := int64(0); ; k++ {
		if at+k >= size {
			return impl.LebRes{Err: impl.LebShort, Next: size}
		}
		c := b[at+k]
		if k == last {
			if c&0x80 != 0 {
				return impl.LebRes{Err: impl.LebLong, Next: at + k + 1}
			}
			if !lastFits(c, width-7*k, signed) {
				return impl.LebRes{Err: impl.LebBits, Next: at + k + 1}
			}
		}
		sum.Add(sum, new(big.Int).Lsh(big.NewInt(int64(c&0x7f)), uint(7*k)))
		if c&0x80 == 0 {
			if signed && c&0x40 != 0 {
				sum.Sub(sum, new(big.Int).Lsh(big.NewInt(1), uint(7*k+7)))
			}
			return impl.LebRes{Val: low64(sum), Next: at + k + 1}
		}
	}
}

func lastFits(c byte, u int64, signed bool) bool {
	from := u
	if signed {
		from = u - 1
	}
	for i := from; i <= 6; i++ {
		bit := c >> uint(i) & 1
		if !signed && bit != 0 || signed && bit != c>>6&1 {
			return false
		}
	}
	return true
}

func low64(x *big.Int) uint64 {
	whole := new(big.Int).Lsh(big.NewInt(1), 64)
	return new(big.Int).Mod(x, whole).Uint64()
}

func checkGet(t *testing.T, b []byte, at int64, width int64) {
	t.Helper()
	kept := bytes.Clone(b)
	if got, want := impl.GetU(b, at, width), lebWant(b, at, width, false); got != want {
		t.Fatalf("GetU(% x, %d, %d): %+v, want %+v", b, at, width, got, want)
	}
	if got, want := impl.GetS(b, at, width), lebWant(b, at, width, true); got != want {
		t.Fatalf("GetS(% x, %d, %d): %+v, want %+v", b, at, width, got, want)
	}
	if !bytes.Equal(b, kept) {
		t.Fatalf("the argument was changed: % x, was % x", b, kept)
	}
}

// edgeNumbers has those around every power of two, and some from within.
func edgeNumbers() []uint64 {
	var out []uint64
	for i := 0; i < 64; i++ {
		p := uint64(1) << i
		out = append(out, p-2, p-1, p, p+1, -p, -p-1, -p+1)
	}
	r := rand.New(rand.NewSource(1))
	for i := 0; i < 20000; i++ {
		out = append(out, r.Uint64()>>(i%64))
	}
	return out
}

func fitsU(x uint64, width int64) bool { return int64(bits.Len64(x)) <= width }

// fitsS: the sign itself takes a bit.
func fitsS(x int64, width int64) bool {
	if x < 0 {
		x = ^x
	}
	return int64(bits.Len64(uint64(x))) < width
}

func checkShape(t *testing.T, b []byte, want int) {
	t.Helper()
	if len(b) != want {
		t.Fatalf("% x: %d bytes, the shortest has %d", b, len(b), want)
	}
	for i, c := range b {
		if (c&0x80 != 0) != (i < len(b)-1) {
			t.Fatalf("% x: the highest bit of byte %d", b, i)
		}
	}
}

func TestPutIsShortest(t *testing.T) {
	for _, x := range edgeNumbers() {
		groups := 1
		for !fitsU(x, int64(7*groups)) {
			groups++
		}
		checkShape(t, impl.PutU(x), groups)
		groups = 1
		for !fitsS(int64(x), int64(7*groups)) {
			groups++
		}
		checkShape(t, impl.PutS(int64(x)), groups)
	}
}

func TestPutKnownWritings(t *testing.T) {
	for _, r := range []struct {
		x    int64
		u, s string
	}{
		{0, "\x00", "\x00"}, {1, "\x01", "\x01"}, {63, "\x3f", "\x3f"}, {64, "\x40", "\xc0\x00"},
		{127, "\x7f", "\xff\x00"}, {128, "\x80\x01", "\x80\x01"}, {8191, "\xff\x3f", "\xff\x3f"},
		{8192, "\x80\x40", "\x80\xc0\x00"}, {16383, "\xff\x7f", "\xff\xff\x00"}, {16384, "\x80\x80\x01", "\x80\x80\x01"},
		{-1, "\xff\xff\xff\xff\xff\xff\xff\xff\xff\x01", "\x7f"},
		{-64, "\xc0\xff\xff\xff\xff\xff\xff\xff\xff\x01", "\x40"},
		{-65, "\xbf\xff\xff\xff\xff\xff\xff\xff\xff\x01", "\xbf\x7f"},
		{-8192, "\x80\xc0\xff\xff\xff\xff\xff\xff\xff\x01", "\x80\x40"},
		{-8193, "\xff\xbf\xff\xff\xff\xff\xff\xff\xff\x01", "\xff\xbf\x7f"},
		{math.MaxInt64, "\xff\xff\xff\xff\xff\xff\xff\xff\x7f", "\xff\xff\xff\xff\xff\xff\xff\xff\xff\x00"},
		{math.MinInt64, "\x80\x80\x80\x80\x80\x80\x80\x80\x80\x01", "\x80\x80\x80\x80\x80\x80\x80\x80\x80\x7f"},
	} {
		if got := string(impl.PutU(uint64(r.x))); got != r.u {
			t.Errorf("PutU(%d): % x", uint64(r.x), got)
		}
		if got := string(impl.PutS(r.x)); got != r.s {
			t.Errorf("PutS(%d): % x", r.x, got)
		}
	}
}

func TestPutGivesNewMemory(t *testing.T) {
	a, b := impl.PutU(300), impl.PutU(300)
	a[0] = 0
	c, d := impl.PutS(-300), impl.PutS(-300)
	c[0] = 0
	if string(b) != "\xac\x02" || string(d) != "\xd4\x7d" || string(impl.PutU(300)) != "\xac\x02" {
		t.Errorf("% x, % x: writings share memory", b, d)
	}
}

func TestGetOfPutIsTheNumber(t *testing.T) {
	widths := allWidths()
	for i, x := range edgeNumbers() {
		u, s := impl.PutU(x), impl.PutS(int64(x))
		for _, w := range widths {
			room := w
			if w < 1 || w > 64 {
				room = 64
			}
			if i > 2000 && room != 64 {
				continue // most of the random ones at full width alone, for time's sake
			}
			got := impl.GetU(u, 0, w)
			if fitsU(x, room) != (got == impl.LebRes{Val: x, Next: int64(len(u))}) || fitsU(x, room) != (got.Err == impl.LebOk) {
				t.Fatalf("GetU(PutU(%#x), 0, %d): %+v", x, w, got)
			}
			got = impl.GetS(s, 0, w)
			if fitsS(int64(x), room) != (got == impl.LebRes{Val: x, Next: int64(len(s))}) || fitsS(int64(x), room) != (got.Err == impl.LebOk) {
				t.Fatalf("GetS(PutS(%#x), 0, %d): %+v", x, w, got)
			}
		}
	}
}

// Every last byte, at every width, behind bytes that are all empty, all full
// or mixed, with fewer and with more bytes than are allowed.
func TestGetEveryLastByte(t *testing.T) {
	for _, w := range allWidths() {
		for _, fill := range []byte{0x80, 0xff, 0xc0, 0xbf, 0xaa} {
			for n := 0; n <= 11; n++ {
				b := append(bytes.Repeat([]byte{fill}, n), 0, 0x55)
				for c := 0; c < 256; c++ {
					b[n] = byte(c)
					checkGet(t, b, 0, w)
					checkGet(t, b[:n+1], 0, w)
				}
			}
		}
	}
}

func TestGetKnownEdges(t *testing.T) {
	rows := []struct {
		b      string
		at     int64
		width  int64
		signed bool
		want   impl.LebRes
	}{
		{"\x00", 0, 1, true, impl.LebRes{Next: 1}},
		{"\x7f", 0, 1, true, impl.LebRes{Val: 1<<64 - 1, Next: 1}},
		{"\x01", 0, 1, true, impl.LebRes{Err: impl.LebBits, Next: 1}},
		{"\x80", 0, 1, true, impl.LebRes{Err: impl.LebLong, Next: 1}},
		{"\x80", 0, 1, false, impl.LebRes{Err: impl.LebLong, Next: 1}},
		{"\x80\x00", 0, 7, false, impl.LebRes{Err: impl.LebLong, Next: 1}},
		{"\x80\x00", 0, 8, false, impl.LebRes{Next: 2}},
		{"\xff\x01", 0, 8, false, impl.LebRes{Val: 255, Next: 2}},
		{"\xff\x02", 0, 8, false, impl.LebRes{Err: impl.LebBits, Next: 2}},
		{"\xff\x82", 0, 8, false, impl.LebRes{Err: impl.LebLong, Next: 2}},
		{"\xff\x00", 0, 8, true, impl.LebRes{Val: 127, Next: 2}},
		{"\xff\x01", 0, 8, true, impl.LebRes{Err: impl.LebBits, Next: 2}},
		{"\x80\x7f", 0, 8, true, impl.LebRes{Val: 1<<64 - 128, Next: 2}},
		{"\x80\x7e", 0, 8, true, impl.LebRes{Err: impl.LebBits, Next: 2}},
		{"\xff\x7f", 0, 64, true, impl.LebRes{Val: 1<<64 - 1, Next: 2}},
		{"\xff\x7f", 0, 64, false, impl.LebRes{Val: 16383, Next: 2}},
		{"\x80\x80\x80\x80\x80\x80\x80\x80\x80\x02", 0, 64, false, impl.LebRes{Err: impl.LebBits, Next: 10}},
		{"\x80\x80\x80\x80\x80\x80\x80\x80\x80\x01", 0, 64, true, impl.LebRes{Err: impl.LebBits, Next: 10}},
		{"\x80\x80\x80\x80\x80\x80\x80\x80\x80\x7f", 0, 64, true, impl.LebRes{Val: 1 << 63, Next: 10}},
		{"\x80\x80\x80\x80\x80\x80\x80\x80\x80\x80\x00", 0, 64, true, impl.LebRes{Err: impl.LebLong, Next: 10}},
		{"\x80\x80\x80\x80\x80\x80\x80\x80\x80", 0, 64, true, impl.LebRes{Err: impl.LebShort, Next: 9}},
		{"zz\xff\xff\xff\xff\x8f", 2, 32, false, impl.LebRes{Err: impl.LebLong, Next: 7}},
		{"zz\xff\xff\xff\xff\x1f", 2, 32, false, impl.LebRes{Err: impl.LebBits, Next: 7}},
		{"zz\xff", 2, 32, true, impl.LebRes{Err: impl.LebShort, Next: 3}},
		{"z\x7f\x01", 1, 32, true, impl.LebRes{Val: 1<<64 - 1, Next: 2}},
	}
	for i, r := range rows {
		got := impl.GetU([]byte(r.b), r.at, r.width)
		if r.signed {
			got = impl.GetS([]byte(r.b), r.at, r.width)
		}
		if got != r.want {
			t.Errorf("row %d: %+v, want %+v", i, got, r.want)
		}
	}
}

func TestGetLongerWritings(t *testing.T) {
	for _, w := range allWidths() {
		most := 10
		if w >= 1 && w <= 64 {
			most = int(w+6) / 7
		}
		for _, x := range []int64{0, 1, -1, 5, 63, -64, 1000, -1000} {
			padded := impl.PutS(x)
			for len(padded) <= most+2 {
				fill := byte(0)
				if x < 0 {
					fill = 0x7f
				}
				padded[len(padded)-1] |= 0x80
				padded = append(padded, fill)
				checkGet(t, padded, 0, w)
				if got := impl.GetS(padded, 0, w); len(padded) <= most && w == 64 && got.Val != uint64(x) {
					t.Fatalf("GetS(% x, 0, %d): %+v", padded, w, got)
				}
			}
		}
	}
}

func TestGetEveryPlace(t *testing.T) {
	b := []byte("\x01\x80\x7f\xff\x80\x00\xe5\x8e\x26\x80\x80")
	far := []int64{math.MinInt64, math.MinInt64 + 1, -1 << 32, -12, -11, -2, -1, 1 << 32, 1<<32 + 1, math.MaxInt64 - 1, math.MaxInt64}
	for _, w := range allWidths() {
		for at := int64(-3); at <= int64(len(b))+3; at++ {
			checkGet(t, b, at, w)
			checkGet(t, nil, at, w)
			checkGet(t, []byte{}, at, w)
		}
		for _, at := range far {
			checkGet(t, b, at, w)
			short := impl.LebRes{Err: impl.LebShort, Next: int64(len(b))}
			if got := impl.GetU(b, at, w); got != short {
				t.Fatalf("GetU at %d: %+v", at, got)
			}
			if got := impl.GetS(b, at, w); got != short {
				t.Fatalf("GetS at %d: %+v", at, got)
			}
		}
	}
}

func TestGetRandomBytes(t *testing.T) {
	r := rand.New(rand.NewSource(2))
	for i := 0; i < 300000; i++ {
		b := make([]byte, r.Intn(14))
		for j := range b {
			b[j] = byte(r.Intn(256))
			if r.Intn(2) == 0 {
				b[j] |= 0x80
			}
		}
		checkGet(t, b, int64(r.Intn(len(b)+1)), int64(r.Intn(72)-3))
	}
}
