package tests

import (
	"bytes"
	"math/rand"
	"testing"
	"unicode/utf8"

	"loop.example/s00119/impl"
)

// openStarts has every beginning of a character that is not yet whole.
func openStarts() map[string]struct{} {
	out := map[string]struct{}{}
	for r := rune(0); r <= utf8.MaxRune; r++ {
		if !utf8.ValidRune(r) {
			continue
		}
		s := utf8.AppendRune(nil, r)
		for n := 1; n < len(s); n++ {
			out[string(s[:n])] = struct{}{}
		}
	}
	return out
}

// utf8Want takes whole characters off the front, and looks for the shortest
// beginning of the rest that no character begins with.
func utf8Want(b []byte, open map[string]struct{}) int64 {
	at := 0
	for at < len(b) {
		r, size := utf8.DecodeRune(b[at:])
		if r != utf8.RuneError || size > 1 {
			at += size
			continue
		}
		for n := 1; at+n <= len(b); n++ {
			if _, ok := open[string(b[at:at+n])]; !ok {
				return int64(at + n - 1)
			}
		}
		return int64(len(b))
	}
	return -1
}

func checkUtf8(t *testing.T, b []byte, open map[string]struct{}) {
	t.Helper()
	kept := bytes.Clone(b)
	got := impl.Utf8Fault(b)
	if want := utf8Want(b, open); got != want {
		t.Fatalf("% x: %d, want %d", b, got, want)
	}
	if (got == -1) != utf8.Valid(b) {
		t.Fatalf("% x: %d, but well formed: %v", b, got, utf8.Valid(b))
	}
	if !bytes.Equal(b, kept) {
		t.Fatalf("the argument was changed: % x, was % x", b, kept)
	}
}

func TestUtf8EveryCharacter(t *testing.T) {
	for r := rune(0); r <= utf8.MaxRune; r++ {
		if r >= 0xd800 && r <= 0xdfff {
			b := []byte{0xe0 | byte(r>>12), 0x80 | byte(r>>6&0x3f), 0x80 | byte(r&0x3f)}
			if got := impl.Utf8Fault(b); got != 1 {
				t.Fatalf("surrogate % x: %d", b, got)
			}
			continue
		}
		b := utf8.AppendRune(nil, r)
		if got := impl.Utf8Fault(b); got != -1 {
			t.Fatalf("% x: %d", b, got)
		}
		for n := 1; n < len(b); n++ {
			if got := impl.Utf8Fault(b[:n]); got != int64(n) {
				t.Fatalf("% x, cut short: %d", b[:n], got)
			}
		}
	}
}

// edgeBytes has the ends of every range of a character's bytes, and the bytes
// beside them.
var edgeBytes = []byte{
	0x00, 0x01, 0x41, 0x7e, 0x7f, 0x80, 0x81, 0x8e, 0x8f, 0x90, 0x91, 0x9e, 0x9f, 0xa0, 0xa1, 0xbe, 0xbf,
	0xc0, 0xc1, 0xc2, 0xc3, 0xde, 0xdf, 0xe0, 0xe1, 0xec, 0xed, 0xee, 0xef, 0xf0, 0xf1, 0xf3, 0xf4, 0xf5, 0xf8, 0xfe, 0xff,
}

func TestUtf8ShortTexts(t *testing.T) {
	open := openStarts()
	checkUtf8(t, nil, open)
	checkUtf8(t, []byte{}, open)
	for a := 0; a < 256; a++ {
		checkUtf8(t, []byte{byte(a)}, open)
		for b := 0; b < 256; b++ {
			checkUtf8(t, []byte{byte(a), byte(b)}, open)
			for _, c := range edgeBytes {
				checkUtf8(t, []byte{byte(a), byte(b), c}, open)
			}
		}
	}
	for _, a := range edgeBytes {
		for _, b := range edgeBytes {
			for _, c := range edgeBytes {
				for _, d := range edgeBytes {
					checkUtf8(t, []byte{a, b, c, d}, open)
				}
			}
		}
	}
}

func TestUtf8LongTexts(t *testing.T) {
	open := openStarts()
	r := rand.New(rand.NewSource(3))
	for i := 0; i < 100000; i++ {
		var b []byte
		for n := r.Intn(8); n > 0; n-- {
			b = utf8.AppendRune(b, rune(r.Intn(0x110000)>>r.Intn(20)))
		}
		checkUtf8(t, b, open)
		if len(b) > 0 {
			b[r.Intn(len(b))] = edgeBytes[r.Intn(len(edgeBytes))]
			checkUtf8(t, b, open)
			checkUtf8(t, b[:r.Intn(len(b)+1)], open)
		}
	}
}

// What follows a fault mends nothing, and what is before it can still be mended.
func TestUtf8FaultIsFinal(t *testing.T) {
	rows := []struct {
		s  string
		at int64
	}{
		{"\x80", 0}, {"\xbf", 0}, {"\xc0", 0}, {"\xc1", 0}, {"\xf5", 0}, {"\xff", 0}, {"a\x80", 1},
		{"\xc2\x7f", 1}, {"\xc2\xc0", 1}, {"\xdf\x7f", 1}, {"\xdf\xc0", 1},
		{"\xe0\x9f", 1}, {"\xe0\xc0", 1}, {"\xe1\x7f", 1}, {"\xec\xc0", 1}, {"\xed\xa0", 1}, {"\xed\x7f", 1}, {"\xee\x7f", 1}, {"\xef\xc0", 1},
		{"\xf0\x8f", 1}, {"\xf0\xc0", 1}, {"\xf1\x7f", 1}, {"\xf3\xc0", 1}, {"\xf4\x90", 1}, {"\xf4\x7f", 1},
		{"\xe0\xa0\x7f", 2}, {"\xed\x9f\xc0", 2}, {"\xf0\x90\x7f", 2}, {"\xf4\x8f\xc0", 2}, {"\xf0\x90\x80\x7f", 3}, {"\xf4\x8f\xbf\xc0", 3},
		{"\xc3\xa9\xe2\x82\xac\xf0\x9f\x98\xc3", 8},
	}
	ends := []string{"", "\x80", "\x80\x80", "\x80\x80\x80", "\xbf\xbf", "a", "\xc2\x80", "\xa0\x80"}
	for _, r := range rows {
		for _, e := range ends {
			if got := impl.Utf8Fault([]byte(r.s + e)); got != r.at {
				t.Errorf("% x: %d, want %d", r.s+e, got, r.at)
			}
		}
		mended := false
		for _, e := range append(ends, "\x90\x80\x80") {
			mended = mended || impl.Utf8Fault([]byte(r.s[:r.at]+e)) == -1
		}
		if !mended {
			t.Errorf("% x: no text that goes on from here is found", r.s[:r.at])
		}
	}
}

// A character after another starts afresh: a narrow range does not stay.
func TestUtf8RangesDoNotStay(t *testing.T) {
	narrow := []string{"\xe0\xa0\x80", "\xed\x9f\xbf", "\xf0\x90\x80\x80", "\xf4\x8f\xbf\xbf"}
	wide := []string{"\x00", "\xc2\x80", "\xdf\xbf", "\xe1\x80\x80", "\xef\xbf\xbf", "\xf1\x80\x80\x80", "\xf3\xbf\xbf\xbf"}
	for _, a := range narrow {
		for _, b := range append(wide, narrow...) {
			if got := impl.Utf8Fault([]byte(a + b + a)); got != -1 {
				t.Errorf("% x: %d", a+b+a, got)
			}
		}
	}
	if got := impl.Utf8Fault(bytes.Repeat([]byte("\xf4\x8f\xbf\xbf\xe0\xbf\x80"), 20000)); got != -1 {
		t.Errorf("a long text: %d", got)
	}
}
