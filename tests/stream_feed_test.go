package tests

import (
	"bytes"
	"runtime"
	"slices"
	"sync"
	"testing"
	"time"

	"loop.example/s00119/impl"
)

// cutAt has b in chunks that end at these places, and one with the rest.
func cutAt(b []byte, places ...int) []impl.Chunk {
	var out []impl.Chunk
	last := 0
	for _, p := range append(slices.Clone(places), len(b)) {
		out = append(out, impl.Chunk{Data: b[last:p:p]})
		last = p
	}
	return out
}

// checkFeed holds Feed against the fault of the whole text.
func checkFeed(t *testing.T, chunks []impl.Chunk, lim impl.Caps, s sight) {
	t.Helper()
	res := impl.Feed(chunks, lim)
	if res.Final != s.verdict() {
		t.Fatalf("%v with %v: %+v, want %+v", chunks, capList(lim), res.Final, s.verdict())
	}
	if len(res.After) != len(chunks) {
		t.Fatalf("%v: %d chunks, want %d", chunks, len(res.After), len(chunks))
	}
	var n int64
	for i, c := range chunks {
		n += int64(len(c.Data))
		if want := s.after(n); res.After[i] != want {
			t.Fatalf("%v with %v: behind number %d %+v, want %+v", chunks, capList(lim), i, res.After[i], want)
		}
	}
}

// streamTexts has a text for each kind of verdict, with caps.
func streamTexts() map[string]impl.Caps {
	free := noCaps()
	return map[string]impl.Caps{
		"":                                     free,
		"00 02 00 01":                          free,
		oneFunc:                                free,
		oneFunc + "0a 04":                      free,
		"01 04 01 61 00 00 00 00":              free,
		oneType + "03 02 01 01 00":             free,
		oneFunc + "0a 05 01 03 00 1a 0b":       free,
		oneFunc + "0a 06 01 04 00 02 40 0b":    withCap(free, 7, 0),
		oneFunc + "0a 04 01 02 00 0b 00 01 00": impl.Caps{},
		"0c":                                   free,
	}
}

func TestChunksByHand(t *testing.T) {
	b := behindHead(oneFunc + "0a 05 01 03 00 1a 0b")
	v := invalid(impl.VaType, 24)
	none := impl.VerdictRes{}
	rows := []struct {
		name   string
		chunks []impl.Chunk
		after  []impl.VerdictRes
	}{
		{"one chunk", cutAt(b), []impl.VerdictRes{v}},
		{"in the first byte of a chunk", cutAt(b, 23), []impl.VerdictRes{none, v}},
		{"in a byte between", cutAt(b, 22), []impl.VerdictRes{none, v}},
		{"in the last byte of a chunk", cutAt(b, 24), []impl.VerdictRes{v, v}},
		{"in the last byte of a later one", cutAt(b, 9, 24), []impl.VerdictRes{none, v, v}},
		{"empty chunks", cutAt(b, 0, 0, 5, 5, 23, 23, 24, 24), []impl.VerdictRes{none, none, none, none, none, none, v, v, v}},
		{"chunks behind it", append(cutAt(b, 12, 24), impl.Chunk{}, impl.Chunk{Data: make([]byte, 70000)}), []impl.VerdictRes{none, v, v, v, v}},
	}
	for _, r := range rows {
		got := impl.Feed(r.chunks, noCaps())
		if !slices.Equal(got.After, r.after) || got.Final != v {
			t.Errorf("%s: %+v, want %+v", r.name, got, r.after)
		}
	}
	for _, chunks := range [][]impl.Chunk{nil, {}, {{}}, {{}, {}, {Data: []byte{}}}} {
		want := impl.FeedRes{After: make([]impl.VerdictRes, len(chunks)), Final: malformed(impl.BinEnd, 0)}
		if got := impl.Feed(chunks, noCaps()); !same(got, want) {
			t.Errorf("%d chunks without bytes: %+v", len(chunks), got)
		}
	}
	for _, text := range []string{"", "00 02 00 01", oneFunc + "0a 04 01 02 00 0b"} {
		b := behindHead(text)
		got := impl.Feed(cutAt(b, 3, 8, len(b)), noCaps())
		if !slices.Equal(got.After, make([]impl.VerdictRes, 4)) || got.Final != accepted(int64(len(b))) {
			t.Errorf("%s: %+v", text, got)
		}
	}
}

func TestNumbersOfChunks(t *testing.T) {
	good := shortest().module(impl.Module{Customs: []impl.Custom{{Bytes: make([]byte, 980)}}})
	if len(good) < 980 || len(good) > 1000 {
		t.Fatalf("%d bytes", len(good))
	}
	bad := append(bytes.Clone(good), 0x0c)
	for _, b := range [][]byte{good, bad, {}, {0x01}} {
		for _, n := range []int{999, 1000} {
			chunks := append(byteChunks(b), make([]impl.Chunk, n-len(b))...)
			checkFeed(t, chunks, noCaps(), sightOf(b, noCaps()))
			ahead := append(make([]impl.Chunk, n-len(b)), byteChunks(b)...)
			checkFeed(t, ahead, noCaps(), sightOf(b, noCaps()))
		}
		for _, n := range []int{1001, 1002, 5000} {
			chunks := append(byteChunks(b), make([]impl.Chunk, n-len(b))...)
			if got := impl.Feed(chunks, noCaps()); !same(got, impl.FeedRes{}) {
				t.Errorf("%d chunks: %d answers, %+v", n, len(got.After), got.Final)
			}
		}
	}
}

// TestEveryCut has every way to cut short texts into chunks, and every way to
// cut longer ones into three.
func TestEveryCut(t *testing.T) {
	for text, lim := range streamTexts() {
		b := behindHead(text)
		s := sightOf(b, lim)
		for first := range len(b) + 1 {
			for second := first; second <= len(b); second++ {
				checkFeed(t, cutAt(b, first, second), lim, s)
			}
		}
	}
	for _, text := range []string{"", "0c", "01", "03 02 01 00", "00 01 00"} {
		b := behindHead(text)
		s := sightOf(b, noCaps())
		for set := range 1 << (len(b) - 1) {
			var places []int
			for p := range len(b) - 1 {
				if set>>p&1 == 1 {
					places = append(places, p+1)
				}
			}
			checkFeed(t, cutAt(b, places...), noCaps(), s)
		}
	}
}

// TestLongTextsInChunks has BytesMax bytes, and what is cut around them.
func TestLongTextsInChunks(t *testing.T) {
	custom := grown()["custom"]
	fill := 60000 + 65536 - len(shortest().module(custom(60000)))
	full := shortest().module(custom(fill))
	long := append(bytes.Clone(full), make([]byte, 4000)...)
	ended := append(shortest().module(custom(fill-4)), 0x03, 0x02, 0x01, 0x00)
	ended = append(ended, 0x00)
	for _, b := range [][]byte{full, long, full[:65535], ended, ended[:65535], make([]byte, 70000)} {
		s := sightOf(b, noCaps())
		for _, places := range [][]int{{}, {1}, {8}, {65534}, {65535}, {65535, 65535, 65536}, {65536}, {65536, 65536}, {65537}, {30000, 65536, 65537, 68000}, {60000, 65535, 65537}} {
			places = slices.DeleteFunc(slices.Clone(places), func(p int) bool { return p > len(b) })
			checkFeed(t, cutAt(b, places...), noCaps(), s)
		}
		var thousands []int
		for p := 999; p < len(b); p += 999 {
			thousands = append(thousands, p)
		}
		checkFeed(t, cutAt(b, thousands...), noCaps(), s)
	}
	if got := sightOf(ended, noCaps()).verdict(); got != invalid(impl.VaIndex, 65536) {
		t.Errorf("the last of BytesMax: %+v", got)
	}
}

func TestFeedKeepsNothing(t *testing.T) {
	b := shortest().module(soundModule())
	chunks := cutAt(b, 10, 30, 30, 77)
	copied := bytes.Clone(b)
	res := impl.Feed(chunks, noCaps())
	if !bytes.Equal(b, copied) || len(chunks) != 5 {
		t.Fatalf("the arguments were written to")
	}
	before := slices.Clone(res.After)
	clear(b)
	impl.Feed(chunks, noCaps())
	if !slices.Equal(before, res.After) {
		t.Errorf("the answer hangs on its arguments")
	}
	// Room behind a chunk is not the program's.
	room := append(make([]byte, 0, 64), copied[:20]...)
	impl.Feed([]impl.Chunk{{Data: room}, {Data: copied[20:]}}, noCaps())
	if !bytes.Equal(room[:64][20:], make([]byte, 44)) {
		t.Errorf("bytes were written behind a chunk")
	}
}

// ended waits until there are no more goroutines than before: one that has done
// all may still be counted for a moment.
func ended(before int) bool {
	for range 2000 {
		if runtime.NumGoroutine() <= before {
			return true
		}
		time.Sleep(time.Millisecond)
	}
	return false
}

func TestNothingGoesOn(t *testing.T) {
	before := runtime.NumGoroutine()
	good := shortest().module(soundModule())
	calls := map[string]func(){
		"accepted":          func() { impl.Verdict(good, noCaps()) },
		"nothing":           func() { impl.Verdict(nil, noCaps()) },
		"cut off":           func() { impl.Verdict(good[:40], noCaps()) },
		"malformed":         func() { impl.Verdict([]byte("\x01"), noCaps()) },
		"over a cap":        func() { impl.Verdict(good, impl.Caps{}) },
		"invalid":           func() { impl.Verdict(behindHead("03 02 01 00 00"), noCaps()) },
		"long":              func() { impl.Verdict(make([]byte, 70000), noCaps()) },
		"no chunk":          func() { impl.Feed(nil, noCaps()) },
		"chunks behind it":  func() { impl.Feed(byteChunks([]byte("\x01\x02\x03\x04")), noCaps()) },
		"too many chunks":   func() { impl.Feed(make([]impl.Chunk, 1001), noCaps()) },
		"chunks of a whole": func() { impl.Feed(byteChunks(good), noCaps()) },
		"measured":          func() { impl.Measure(soundModule()) },
	}
	for name, call := range calls {
		for range 300 {
			call()
		}
		if !ended(before) {
			t.Fatalf("%s: %d goroutines, %d before", name, runtime.NumGoroutine(), before)
		}
	}
}

// TestCallsAtOnce has many calls at the same time: each has a decoder of its own.
func TestCallsAtOnce(t *testing.T) {
	k := newMaker(74)
	var texts [][]byte
	var wants []impl.VerdictRes
	for range 60 {
		m := k.validModule()
		k.spoilAny(&m)
		b := impl.Encode(m)
		texts = append(texts, b)
		wants = append(wants, sightOf(b, noCaps()).verdict())
	}
	got := make([][]impl.VerdictRes, 8)
	var all sync.WaitGroup
	for i := range got {
		all.Go(func() {
			for _, b := range texts {
				got[i] = append(got[i], impl.Feed(cutAt(b, len(b)/3, len(b)/2), noCaps()).Final)
			}
		})
	}
	all.Wait()
	for i := range got {
		if !slices.Equal(got[i], wants) {
			t.Errorf("caller %d has other answers", i)
		}
	}
}
