package tests

import (
	"bytes"
	"slices"
	"testing"

	"loop.example/s00119/impl"
)

// checkText holds Decode against the machine, and what is accepted against
// promise 4.
func checkText(t *testing.T, b []byte) verdict {
	t.Helper()
	d := impl.Decode(b)
	got := verdict{d.Err, d.At}
	if want := machineVerdict(b); got != want {
		t.Fatalf("% x: %+v, want %+v", b, got, want)
	}
	if got.err != 0 {
		if !same(d.Module, impl.Module{}) {
			t.Fatalf("% x: a module beside a fault", b)
		}
		return got
	}
	if !impl.WellFormed(d.Module) {
		t.Fatalf("% x: read, but not well formed: %+v", b, d.Module)
	}
	short := impl.Encode(d.Module)
	if len(short) == 0 || len(short) > len(b) || !same(impl.Decode(short), d) {
		t.Fatalf("% x: written % x", b, short)
	}
	return got
}

// byEnd tells whether a fault is one that the end of the bytes makes.
func byEnd(v verdict, b []byte) bool {
	return v.err == impl.BinEnd || v.err == impl.BinCount && v.at == int64(len(b))
}

// sureAt tells whether the fault is that of a byte, not of the text's end: a
// BinCount can stand at the end and yet be of the code section's number.
func sureAt(v verdict, b []byte) bool {
	if v.err == 0 || v.err == impl.BinEnd {
		return false
	}
	return v.err != impl.BinCount || decodeVerdict(slices.Concat(b, []byte{0})) == v
}

// checkSure is promise 5 of a text that has a fault.
func checkSure(t *testing.T, k maker, b []byte) {
	t.Helper()
	v := decodeVerdict(b)
	if !sureAt(v, b) {
		return
	}
	if v.at < 1 || v.at > int64(len(b)) {
		t.Fatalf("% x: fault %+v is outside", b, v)
	}
	start := b[:v.at:v.at]
	ends := [][]byte{nil, {0x00}, {0x0b}, {0x7f}, {0xff}, {0x80, 0x00}, bytes.Repeat([]byte{0}, 40), some(k, 30, func() byte { return byte(k.Intn(256)) })}
	for _, end := range ends {
		if got := decodeVerdict(append(start, end...)); got != v {
			t.Fatalf("% x and % x: %+v, want %+v", start, end, got, v)
		}
	}
	for n := range v.at {
		if w := decodeVerdict(b[:n]); w.err != 0 && (!byEnd(w, b[:n]) || w.at != n) {
			t.Fatalf("% x, %d of it: %+v, but at %d %+v", b, n, w, v.at, v)
		}
	}
}

// goodTexts has texts of modules, in the shortest writing and in others.
func goodTexts(k maker, n int) [][]byte {
	loose := layout{longer: func() int { return max(0, k.Intn(8)-4) }, hollow: true}
	var out [][]byte
	for range n {
		m := k.module()
		out = append(out, shortest().module(m), loose.module(m))
	}
	return out
}

func TestEveryByteOfTheFullModule(t *testing.T) {
	good := unhex(fullBytes)
	for place := range good {
		for c := range 256 {
			b := bytes.Clone(good)
			b[place] = byte(c)
			checkText(t, b)
		}
	}
}

func TestEveryBeginning(t *testing.T) {
	k := newMaker(8)
	texts := append(goodTexts(k, 150), unhex(fullBytes))
	for _, b := range texts {
		m := newMachine()
		for n := range len(b) + 1 {
			got, want := decodeVerdict(b[:n]), m.now()
			if got != want || got.err != 0 && !byEnd(got, b[:n]) {
				t.Fatalf("% x, %d of it: %+v, want %+v", b, n, got, want)
			}
			if n < len(b) {
				m.feed(b[n])
			}
		}
		if m.now().err != 0 {
			t.Fatalf("% x: the machine of the tests has %+v", b, m.now())
		}
	}
}

// changed has one byte behind the first eight that is another, one more, or
// one less.
func (k maker) changed(b []byte) []byte {
	if len(b) <= 8 {
		return b
	}
	b = bytes.Clone(b)
	place := 8 + k.Intn(len(b)-8)
	switch k.Intn(4) {
	case 0:
		b[place] = byte(k.Intn(256))
	case 1:
		b[place] += pick(k, []byte{1, 0xff})
	case 2:
		b = slices.Insert(b, place, pick(k, []byte{0, 1, 0x0b, 0x05, 0x7f, 0x80, 0xff}))
	case 3:
		b = slices.Delete(b, place, place+1)
	}
	return b
}

func TestChangedTexts(t *testing.T) {
	k := newMaker(9)
	for _, good := range goodTexts(k, 500) {
		for range 20 {
			once := k.changed(good)
			checkText(t, once)
			checkText(t, k.changed(once))
		}
	}
}

// A change that keeps the sizes right comes to other faults than one that does
// not, so the sections' contents are changed ahead of being put together.
func TestChangedContents(t *testing.T) {
	k := newMaker(10)
	for range 800 {
		m := k.module()
		has, contents := filled(m), shortest().contents(m)
		for range 12 {
			text := []byte(headBytes)
			for number, content := range contents {
				if !has[number] {
					continue
				}
				b := bytes.Clone(content)
				if place := k.Intn(len(b)); k.Intn(2) == 0 {
					b[place] = pick(k, []byte{b[place] + 1, b[place] - 1, byte(k.Intn(256)), 0x80 | b[place], 0x0b})
				}
				text = append(text, shortest().section(int64(number), b)...)
			}
			checkText(t, text)
		}
	}
}

func TestPromiseOfTheFirstSureByte(t *testing.T) {
	k := newMaker(11)
	good := unhex(fullBytes)
	for place := range good {
		for range 6 {
			b := bytes.Clone(good)
			b[place] = byte(k.Intn(256))
			checkSure(t, k, b)
		}
	}
	for _, good := range goodTexts(k, 60) {
		for range 12 {
			b := bytes.Clone(good)
			b[k.Intn(len(b))] = byte(k.Intn(256))
			checkSure(t, k, b)
		}
	}
}

// Promise 5 up to texts of BytesMax bytes.
func TestSureByteOfLongTexts(t *testing.T) {
	rows := []faultRow{
		{"0c", impl.BinSection, 1}, {"01 01 00 01", impl.BinOrder, 4}, {"01 01 01 60", impl.BinSize, 4}, {"01 02 00 00", impl.BinSize, 4}, {"07 05 01 04", impl.BinSize, 4}, {"03 02 01 00 0a 04 01 03", impl.BinSize, 8},
		{"0b 06 01 00 0b 03", impl.BinSize, 6}, {"01 80 80 80 80 10", impl.BinLeb, 6}, {"01 14 01 61", impl.BinForm, 4}, {"01 14 01 60 00 02", impl.BinForm, 6}, {"00 14 05 ff", impl.BinUtf8, 4}, {"00 14 01 c3", impl.BinUtf8, 4},
		{"03 02 01 00 0a 14 01 12 00 05", impl.BinOp, 10}, {"03 02 01 00 0a 14 02", impl.BinCount, 7}, {"03 02 01 00 0a 14 01 12 02 ff ff ff ff 0f 7f 01", impl.BinLocals, 16},
	}
	for _, r := range rows {
		start := append([]byte(headBytes), unhex(r.b)...)
		want := verdict{r.err, r.at + 8}
		for _, c := range []byte{0x00, 0x01, 0x0b, 0x7f, 0x80, 0xff} {
			for _, size := range []int{len(start) + 1, 300, 65535, 65536} {
				b := append(bytes.Clone(start), bytes.Repeat([]byte{c}, size-len(start))...)
				if got := decodeVerdict(b); got != want {
					t.Errorf("%s and %d bytes %02x: %+v, want %+v", r.b, size-len(start), c, got, want)
				}
			}
			b := append(bytes.Clone(start), bytes.Repeat([]byte{c}, 65537-len(start))...)
			if got := decodeVerdict(b); got != (verdict{impl.BinLong, 0}) {
				t.Errorf("%s in more than BytesMax: %+v", r.b, got)
			}
		}
		for n := range want.at {
			if got := decodeVerdict(start[:n]); got.err != 0 && !byEnd(got, start[:n]) {
				t.Errorf("%s, %d of it: %+v", r.b, n, got)
			}
		}
	}
}

func TestAnyBytes(t *testing.T) {
	k := newMaker(12)
	for range 20000 {
		b := some(k, 40, func() byte { return byte(k.Intn(256)) })
		checkText(t, b)
		checkText(t, append([]byte(headBytes), b...))
		near := some(k, 40, func() byte {
			return pick(k, []byte{0, 1, 2, 3, 4, 5, 6, 7, 8, 9, 10, 11, 0x60, 0x70, 0x7f, 0x40, 0x41, 0x80})
		})
		checkText(t, append([]byte(headBytes), near...))
		kept := bytes.Clone(near)
		for at := range int64(len(near)) {
			impl.DecodeIns(near, at)
		}
		if !bytes.Equal(near, kept) {
			t.Fatalf("the argument was written to")
		}
	}
}
