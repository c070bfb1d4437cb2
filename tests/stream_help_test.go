package tests

import (
	"bytes"
	"slices"
	"testing"

	"loop.example/s00119/impl"
)

// capsOf has all ten caps, in the order of their numbers.
func capsOf(values ...int64) impl.Caps {
	return impl.Caps{Types: values[0], Imports: values[1], Funcs: values[2], Globals: values[3], Exports: values[4], Locals: values[5], Depth: values[6], Labels: values[7], Name: values[8], Elems: values[9]}
}

func capList(c impl.Caps) []int64 {
	return []int64{c.Types, c.Imports, c.Funcs, c.Globals, c.Exports, c.Locals, c.Depth, c.Labels, c.Name, c.Elems}
}

func noCaps() impl.Caps { return capsOf(slices.Repeat([]int64{impl.CapNone}, 10)...) }

// withCap is c with another cap of this number.
func withCap(c impl.Caps, number, value int64) impl.Caps {
	list := capList(c)
	list[number-1] = value
	return capsOf(list...)
}

func malformed(code, at int64) impl.VerdictRes {
	return impl.VerdictRes{Kind: impl.VkMalformed, Code: code, At: at}
}

func invalid(code, at int64) impl.VerdictRes {
	return impl.VerdictRes{Kind: impl.VkInvalid, Code: code, At: at}
}

func overCap(code, at int64) impl.VerdictRes {
	return impl.VerdictRes{Kind: impl.VkCap, Code: code, At: at}
}

func accepted(at int64) impl.VerdictRes { return impl.VerdictRes{Kind: impl.VkAccept, At: at} }

// behindHead is a text that goes on behind the first eight bytes.
func behindHead(text string) []byte { return append([]byte(headBytes), unhex(text)...) }

// byteChunks has each byte in a chunk of its own.
func byteChunks(b []byte) []impl.Chunk {
	var out []impl.Chunk
	for _, c := range b {
		out = append(out, impl.Chunk{Data: []byte{c}})
	}
	return out
}

// openVerdict tells whether a verdict on n bytes is one that more of them can
// change.
func openVerdict(v impl.VerdictRes, n int) bool {
	at := int64(n)
	return v == accepted(at) || v == malformed(impl.BinEnd, at) || v == malformed(impl.BinCount, at)
}

// checkVerdict holds Verdict against what is wanted and against the machine.
func checkVerdict(t *testing.T, b []byte, lim impl.Caps, want impl.VerdictRes) {
	t.Helper()
	if got := impl.Verdict(b, lim); got != want {
		t.Fatalf("% x with %v: %+v, want %+v", b, capList(lim), got, want)
	}
	if ref := sightOf(b, lim).verdict(); ref != want {
		t.Fatalf("% x with %v: the machine of the tests has %+v, want %+v", b, capList(lim), ref, want)
	}
}

// checkShows is for a verdict that a byte of b shows: the byte ahead of it does
// not, and whatever stands behind it changes nothing; byte by byte, it is told
// with that byte.
func checkShows(t *testing.T, b []byte, lim impl.Caps, want impl.VerdictRes) {
	t.Helper()
	checkVerdict(t, b, lim, want)
	shown := b[:want.At:want.At]
	for n := range shown {
		if v := impl.Verdict(b[:n], lim); !openVerdict(v, n) {
			t.Fatalf("% x with %v, %d bytes of it: %+v, but %+v in all", b, capList(lim), n, v, want)
		}
	}
	for _, end := range [][]byte{nil, {0x00}, {0x0b}, {0x7f}, {0x80}, {0xff}, bytes.Repeat([]byte{0x0b}, 60), bytes.Repeat([]byte{0xff}, 60), []byte(headBytes)} {
		if v := impl.Verdict(append(shown, end...), lim); v != want {
			t.Fatalf("% x and % x with %v: %+v, want %+v", shown, end, capList(lim), v, want)
		}
	}
	res := impl.Feed(byteChunks(b), lim)
	if len(res.After) != len(b) || res.Final != want {
		t.Fatalf("% x with %v in single bytes: %d chunks, %+v, want %+v", b, capList(lim), len(res.After), res.Final, want)
	}
	for i, v := range res.After {
		if int64(i) < want.At-1 && v != (impl.VerdictRes{}) || int64(i) >= want.At-1 && v != want {
			t.Fatalf("% x with %v in single bytes: %+v behind number %d, in all %+v", b, capList(lim), v, i, want)
		}
	}
}

// checkOpen is for a verdict that only the end of b shows.
func checkOpen(t *testing.T, b []byte, lim impl.Caps, want impl.VerdictRes) {
	t.Helper()
	checkVerdict(t, b, lim, want)
	if !openVerdict(want, len(b)) {
		t.Fatalf("% x: %+v is no verdict of its end", b, want)
	}
	res := impl.Feed(byteChunks(b), lim)
	if len(res.After) != len(b) || res.Final != want {
		t.Fatalf("% x in single bytes: %d chunks, %+v, want %+v", b, len(res.After), res.Final, want)
	}
	for i, v := range res.After {
		if v != (impl.VerdictRes{}) {
			t.Fatalf("% x in single bytes: %+v behind number %d", b, v, i)
		}
	}
}
