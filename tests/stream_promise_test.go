package tests

import (
	"bytes"
	"slices"
	"testing"

	"loop.example/s00119/impl"
)

// someCaps has some caps near what a module measures, and the others free.
func (k maker) someCaps(least impl.Caps) impl.Caps {
	lim := noCaps()
	if k.Intn(3) == 0 {
		return lim
	}
	for i, value := range capList(least) {
		if k.Intn(4) == 0 {
			lim = withCap(lim, int64(i)+1, max(0, value+pick(k, []int64{-2, -1, -1, 0, 0, 1})))
		}
	}
	return lim
}

// cuts has places to cut n bytes at, some of them twice.
func (k maker) cuts(n int) []int {
	places := some(k, 8, func() int { return k.Intn(n + 1) })
	slices.Sort(places)
	return places
}

// streamText is a text of a module that is valid or has been spoiled, in the
// shortest writing or another, perhaps changed or cut off.
func (k maker) streamText() ([]byte, impl.Caps) {
	m := k.validModule()
	if k.Intn(3) == 0 {
		m = k.module()
	}
	if k.Intn(2) == 0 {
		k.spoilAny(&m)
	}
	if !impl.WellFormed(m) {
		return k.streamText()
	}
	b := shortest().module(m)
	if k.Intn(2) == 0 {
		b = layout{longer: func() int { return max(0, k.Intn(8)-4) }, hollow: true}.module(m)
	}
	for range k.Intn(3) {
		b = k.changed(b)
	}
	if k.Intn(4) == 0 {
		b = b[:k.Intn(len(b)+1)]
	}
	return b, k.someCaps(impl.Measure(m))
}

// keeps is promise 7 of a text: what Decode, Validate and Measure say of it.
func keeps(b []byte, lim impl.Caps, v impl.VerdictRes) bool {
	d := impl.Decode(b)
	sound := d.Err == 0 && impl.Validate(d.Module) == (impl.ValRes{})
	passed := false
	if d.Err == 0 {
		for i, value := range capList(impl.Measure(d.Module)) {
			passed = passed || value > capList(lim)[i]
		}
	}
	if v.Kind == impl.VkAccept {
		return sound && !passed && v.Code == 0 && v.At == int64(len(b))
	}
	if sound && !passed {
		return false
	}
	switch v.Kind {
	case impl.VkMalformed:
		return d.Err == v.Code && d.At == v.At
	case impl.VkInvalid:
		return d.Err != 0 || impl.Validate(d.Module).Err == v.Code
	}
	return v.Kind == impl.VkCap && (d.Err != 0 || passed)
}

func TestPromisesOfTheStream(t *testing.T) {
	k := newMaker(75)
	seen := map[[2]int64]int{}
	for range 6000 {
		b, lim := k.streamText()
		s := sightOf(b, lim)
		v := impl.Verdict(b, lim)
		if v != s.verdict() {
			t.Fatalf("% x with %v: %+v, want %+v", b, capList(lim), v, s.verdict())
		}
		if !keeps(b, lim, v) {
			t.Fatalf("% x with %v: %+v, but Decode has %+v", b, capList(lim), v, impl.Decode(b))
		}
		seen[[2]int64{v.Kind, v.Code}]++
		checkFeed(t, cutAt(b), lim, s)
		for range 3 {
			checkFeed(t, cutAt(b, k.cuts(len(b))...), lim, s)
		}
		if len(b) <= 1000 {
			checkFeed(t, byteChunks(b), lim, s)
		}
	}
	t.Logf("seen: %v", seen)
	kinds := map[int64][]int64{
		impl.VkAccept:    {0},
		impl.VkMalformed: {impl.BinEnd, impl.BinSection, impl.BinOrder, impl.BinSize, impl.BinLeb, impl.BinForm, impl.BinUtf8, impl.BinOp, impl.BinCount},
		impl.VkInvalid:   {impl.VaIndex, impl.VaLimits, impl.VaMany, impl.VaConst, impl.VaType},
		impl.VkCap:       {1, 2, 3, 4, 5, 6, 7, 8, 9, 10},
	}
	for kind, codes := range kinds {
		for _, code := range codes {
			if seen[[2]int64{kind, code}] == 0 {
				t.Errorf("kind %d, code %d was not seen", kind, code)
			}
		}
	}
}

// TestSureVerdicts: what a byte shows, no text that goes on from there can
// change, and no beginning that is shorter has it.
func TestSureVerdicts(t *testing.T) {
	k := newMaker(76)
	for range 1500 {
		b, lim := k.streamText()
		v := impl.Verdict(b, lim)
		if sightOf(b, lim).class == ofEnd {
			continue
		}
		if v.At < 1 || v.At > int64(len(b)) {
			t.Fatalf("% x: %+v is outside", b, v)
		}
		start := b[:v.At:v.At]
		for range 4 {
			end := some(k, 30, func() byte { return byte(k.Intn(256)) })
			if got := impl.Verdict(append(start, end...), lim); got != v {
				t.Fatalf("% x and % x with %v: %+v, want %+v", start, end, capList(lim), got, v)
			}
		}
		for _, n := range []int64{v.At - 1, k.Int63n(v.At)} {
			if got := impl.Verdict(b[:n], lim); !openVerdict(got, int(n)) {
				t.Fatalf("% x with %v, %d bytes of it: %+v, but at %d %+v", b, capList(lim), n, got, v.At, v)
			}
		}
	}
}

// TestEveryByteOfASoundModule changes each byte of a valid module into each
// other one.
func TestEveryByteOfASoundModule(t *testing.T) {
	good := shortest().module(soundModule())
	lim := impl.Measure(soundModule())
	for place := range good {
		for c := range 256 {
			b := bytes.Clone(good)
			b[place] = byte(c)
			if got, want := impl.Verdict(b, lim), sightOf(b, lim).verdict(); got != want {
				t.Fatalf("% x with %v: %+v, want %+v", b, capList(lim), got, want)
			}
		}
	}
}

func TestVerdictsOfAnyBytes(t *testing.T) {
	k := newMaker(77)
	few := []byte{0, 1, 2, 3, 4, 5, 6, 7, 8, 9, 10, 11, 0x60, 0x70, 0x7f, 0x40, 0x41, 0x80, 0x23}
	for range 20000 {
		b := some(k, 40, func() byte { return pick(k, few) })
		if k.Intn(8) > 0 {
			b = append([]byte(headBytes), b...)
		}
		lim := impl.Caps{}
		for number := range int64(10) {
			lim = withCap(lim, number+1, int64(k.Intn(5)-1))
		}
		if got, want := impl.Verdict(b, lim), sightOf(b, lim).verdict(); got != want {
			t.Fatalf("% x with %v: %+v, want %+v", b, capList(lim), got, want)
		}
	}
}
