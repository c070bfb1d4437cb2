package tests

import (
	"bytes"
	"slices"
	"testing"

	"loop.example/s00119/impl"
)

// Sections that rows begin with: one type without parameters and results, and
// one function of it.
const (
	oneType  = "01 04 01 60 00 00 " // 6 bytes
	oneFunc  = oneType + "03 02 01 00 "
	oneTable = "04 04 01 70 00 00 " // 6 bytes
	oneMem   = "05 03 01 00 00 "    // 5 bytes
)

// shownRow is a text behind the first eight bytes, and what shows in it, At
// being counted from behind the eight.
type shownRow struct {
	b    string
	code int64
	at   int64
}

func checkShown(t *testing.T, verdict func(code, at int64) impl.VerdictRes, rows []shownRow) {
	t.Helper()
	for _, r := range rows {
		checkShows(t, behindHead(r.b), noCaps(), verdict(r.code, r.at+8))
	}
}

func TestBeginningsOfTheHead(t *testing.T) {
	for n := range 8 {
		checkOpen(t, []byte(headBytes)[:n], noCaps(), malformed(impl.BinEnd, int64(n)))
		checkOpen(t, []byte(headBytes)[:n], impl.Caps{}, malformed(impl.BinEnd, int64(n)))
		for _, c := range []byte{headBytes[n] + 1, headBytes[n] - 1, 0xff, 0x41} {
			b := []byte(headBytes)
			b[n] = c
			checkShows(t, b, noCaps(), malformed(impl.BinMagic, int64(n)+1))
			checkShows(t, append(b, 0x01, 0x04), impl.Caps{}, malformed(impl.BinMagic, int64(n)+1))
		}
	}
	checkOpen(t, nil, noCaps(), malformed(impl.BinEnd, 0))
	checkOpen(t, []byte(headBytes), noCaps(), accepted(8))
	checkOpen(t, []byte(headBytes), impl.Caps{}, accepted(8))
	below := capsOf(slices.Repeat([]int64{-1}, 10)...)
	checkOpen(t, impl.Encode(impl.Module{}), below, accepted(8))
}

func TestEveryFaultOfTheBytes(t *testing.T) {
	checkShown(t, malformed, []shownRow{
		{"0c", impl.BinSection, 1},
		{"ff 01 00", impl.BinSection, 1},
		{oneType + "01 01 00", impl.BinOrder, 7},
		{"05 01 00 00 01 00 04 01 00", impl.BinOrder, 7},
		{"01 01 01 60 00 00", impl.BinSize, 4},
		{"01 02 00 00", impl.BinSize, 4},
		{"01 06 01 60 00 00 00 00", impl.BinSize, 7},
		{"00 02 02 61 61", impl.BinSize, 3},
		{"07 05 01 04 61 00 00", impl.BinSize, 4},
		{oneFunc + "0a 04 01 03 00 0b", impl.BinSize, 14},
		{oneFunc + "0a 05 01 03 00 0b 0b", impl.BinSize, 17},
		{oneFunc + "0a 05 01 02 00 01 0b", impl.BinSize, 17},
		{oneMem + "0b 06 01 00 41 00 0b 01", impl.BinSize, 13},
		{"01 80 80 80 80 10", impl.BinLeb, 6},
		{"01 80 80 80 80 80 00", impl.BinLeb, 6},
		{oneFunc + "0a 0b 01 09 00 41 80 80 80 80 08 1a 0b", impl.BinLeb, 21},
		{"01 04 01 61 00 00", impl.BinForm, 4},
		{"01 06 01 60 00 02 7f 7f", impl.BinForm, 6},
		{"01 05 01 60 01 40 00", impl.BinForm, 6},
		{"02 05 01 00 00 04 00", impl.BinForm, 6},
		{"04 04 01 6f 00 00", impl.BinForm, 4},
		{"05 03 01 02 00", impl.BinForm, 4},
		{"06 06 01 7f 02 41 00 0b", impl.BinForm, 5},
		{"07 04 01 00 04 00", impl.BinForm, 5},
		{oneTable + "09 06 01 01 41 00 0b 00", impl.BinForm, 10},
		{oneFunc + "0a 06 01 04 00 02 41 0b", impl.BinForm, 17},
		{oneFunc + "0a 06 01 04 00 3f 01 0b", impl.BinForm, 17},
		{"00 04 02 c3 28 00", impl.BinUtf8, 5},
		{"00 03 01 c3 80", impl.BinUtf8, 4},
		{"07 06 01 02 ed a0 00 00", impl.BinUtf8, 6},
		{oneFunc + "0a 05 01 03 00 06 0b", impl.BinOp, 16},
		{oneFunc + "0a 05 01 03 00 05 0b", impl.BinOp, 16},
		{"06 05 01 7f 00 ff 0b", impl.BinOp, 6},
		{oneFunc + "0a 04 02 02 00 0b", impl.BinCount, 13},
		{"0a 04 01 02 00 0b", impl.BinCount, 3},
		{oneFunc + "0a 01 00", impl.BinCount, 13},
		{oneFunc + "0a 0c 01 0a 02 ff ff ff ff 0f 7f 01 7f 0b", impl.BinLocals, 22},
	})
}

func TestFaultsByTheEnd(t *testing.T) {
	good := shortest().module(soundModule())
	for n := range good {
		v := machineVerdict(good[:n])
		want := malformed(v.err, v.at)
		if v.err == 0 {
			want = accepted(int64(n))
		}
		checkOpen(t, good[:n], noCaps(), want)
	}
	checkOpen(t, good, noCaps(), accepted(int64(len(good))))
	for _, text := range []string{oneFunc, oneFunc + oneTable, oneType + "03 03 02 00 00", oneFunc + "00 02 01 61", oneFunc + oneMem + "0b 06 01 00 41 00 0b 00"} {
		b := behindHead(text)
		checkOpen(t, b, noCaps(), malformed(impl.BinCount, int64(len(b))))
	}
	for _, text := range []string{"03 01 00", "0a 01 00", "03 01 00 0a 01 00", "00 01 00", oneFunc + "0a 04 01 02 00 0b"} {
		b := behindHead(text)
		checkOpen(t, b, noCaps(), accepted(int64(len(b))))
	}
}

// TestEntriesThatAreNotValid has the fault at the last byte of an entry, of the
// first one and of a later one.
func TestEntriesThatAreNotValid(t *testing.T) {
	checkShown(t, invalid, []shownRow{
		{"02 05 01 00 00 00 00", impl.VaIndex, 7},
		{oneType + "02 05 01 00 00 00 01", impl.VaIndex, 13},
		{oneType + "02 0a 02 00 00 00 00 00 00 00 81 00", impl.VaIndex, 18},
		{"02 07 01 00 00 02 01 02 01", impl.VaLimits, 9},
		{"02 08 01 00 00 02 00 81 80 04", impl.VaLimits, 10},
		{"02 08 01 00 00 01 70 01 02 01", impl.VaLimits, 10},
		{"02 0b 02 00 00 02 00 00 00 00 02 00 00", impl.VaMany, 13},
		{"02 0d 02 00 00 01 70 00 00 00 00 01 70 00 00", impl.VaMany, 15},
		{"03 02 01 00", impl.VaIndex, 4},
		{oneType + "03 04 03 00 00 01", impl.VaIndex, 12},
		{"04 05 01 70 01 01 00", impl.VaLimits, 7},
		{"04 07 02 70 00 00 70 00 00", impl.VaMany, 9},
		{"02 07 01 00 00 01 70 00 00 " + oneTable, impl.VaMany, 15},
		{"05 04 01 01 01 00", impl.VaLimits, 6},
		{"05 05 02 00 00 00 00", impl.VaMany, 7},
		{"02 06 01 00 00 02 00 00 " + oneMem, impl.VaMany, 13},
		{"06 04 01 7f 00 0b", impl.VaType, 6},
		{"06 06 01 7f 00 42 00 0b", impl.VaType, 8},
		{"06 08 01 7f 00 41 00 41 00 0b", impl.VaType, 10},
		{"06 05 01 7f 00 01 0b", impl.VaConst, 7},
		{"06 07 01 7f 00 41 00 01 0b", impl.VaConst, 9},
		{"06 07 01 7f 00 02 40 0b 0b", impl.VaConst, 9},
		{"06 06 01 7f 00 23 00 0b", impl.VaIndex, 8},
		{"02 06 01 00 00 03 7f 01 06 06 01 7f 00 23 00 0b", impl.VaConst, 16},
		{"06 0b 02 7f 00 41 00 0b 7f 00 23 00 0b", impl.VaIndex, 13},
		{"07 04 01 00 00 00", impl.VaIndex, 6},
		{"07 04 01 00 01 00", impl.VaIndex, 6},
		{"07 04 01 00 02 00", impl.VaIndex, 6},
		{"07 05 01 00 03 80 00", impl.VaIndex, 7},
		{oneMem + "07 0a 02 01 61 02 00 01 61 02 80 00", impl.VaName, 17},
		{oneMem + "07 09 02 01 61 02 00 01 61 02 01", impl.VaName, 16},
		{oneMem + "07 09 02 01 61 02 00 01 62 02 01", impl.VaIndex, 16},
		{"08 01 00", impl.VaIndex, 3},
		{"08 02 80 00", impl.VaIndex, 4},
		{"01 05 01 60 01 7f 00 03 02 01 00 08 01 00", impl.VaType, 14},
		{"01 05 01 60 00 01 7f 03 02 01 00 08 01 00", impl.VaType, 14},
	})
}

func TestSegmentsThatAreNotValid(t *testing.T) {
	checkShown(t, invalid, []shownRow{
		{"09 06 01 00 41 00 0b 00", impl.VaIndex, 4},
		{"09 05 01 00 01 0b 00", impl.VaIndex, 4},
		{"09 06 01 00 06 00 0b 00", impl.VaIndex, 4},
		{oneTable + "09 05 01 00 01 0b 00", impl.VaConst, 11},
		{oneTable + "09 07 01 00 41 00 01 0b 00", impl.VaConst, 13},
		{oneTable + "09 06 01 00 01 06 0b 00", impl.VaConst, 11},
		{oneTable + "09 07 01 00 02 40 0b 0b 00", impl.VaConst, 12},
		{oneTable + "09 07 01 00 23 80 00 0b 00", impl.VaIndex, 13},
		{oneTable + "09 04 01 00 0b 00", impl.VaType, 11},
		{oneTable + "09 06 01 00 42 00 0b 00", impl.VaType, 13},
		{oneTable + "09 07 01 00 41 00 0b 01 00", impl.VaIndex, 15},
		{oneTable + "09 08 01 00 41 00 0b 01 80 00", impl.VaIndex, 16},
		{oneFunc + oneTable + "09 09 01 00 41 00 0b 03 00 01 00", impl.VaIndex, 26},
		{oneFunc + oneTable + "09 0d 02 00 41 00 0b 01 00 00 41 00 0b 01 01", impl.VaIndex, 31},
		{oneFunc + oneTable + "09 0d 02 00 41 00 0b 01 00 00 01 00 0b 01 01", impl.VaConst, 27},
		{"0b 06 01 00 41 00 0b 00", impl.VaIndex, 4},
		{"0b 06 01 00 06 00 0b 00", impl.VaIndex, 4},
		{oneTable + "0b 06 01 00 41 00 0b 00", impl.VaIndex, 10},
		{oneMem + "0b 05 01 00 01 0b 00", impl.VaConst, 10},
		{oneMem + "0b 07 01 00 23 80 00 0b 00", impl.VaIndex, 12},
		{oneMem + "0b 06 01 00 42 00 0b 00", impl.VaType, 12},
		{oneMem + "0b 0a 02 00 41 00 0b 00 00 01 0b 00", impl.VaConst, 15},
	})
}

// TestBodiesThatAreNotValid has a body behind two functions of the type i32 to
// i32, a global that is not Mut, and the first code; its first byte is number 41.
func TestBodiesThatAreNotValid(t *testing.T) {
	const ahead = "01 06 01 60 01 7f 01 7f 03 03 02 00 00 06 06 01 7f 00 41 00 0b "
	rows := []shownRow{
		{"0b", impl.VaType, 1},
		{"20 00 01 20 01 0b", impl.VaIndex, 5},
		{"20 80 01 0b", impl.VaIndex, 3},
		{"20 00 1a 0b", impl.VaType, 4},
		{"20 00 7c 0b", impl.VaType, 3},
		{"20 00 24 00 0b", impl.VaMut, 4},
		{"20 00 23 81 00 0b", impl.VaIndex, 5},
		{"20 00 10 02 0b", impl.VaIndex, 4},
		{"20 00 28 02 80 00 0b", impl.VaIndex, 6},
		{"20 00 11 00 00 0b", impl.VaIndex, 5},
		{"3f 00 0b", impl.VaIndex, 2},
		{"20 00 04 7f 00 0b 0b", impl.VaType, 6},
		{"04 40 0b 0b", impl.VaType, 2},
		{"20 00 0c 01 0b", impl.VaIndex, 4},
		{"20 00 20 00 0e 02 00 02 81 00 0b", impl.VaIndex, 10},
		{"02 40 42 80 01 0b 0b", impl.VaType, 6},
	}
	for _, r := range rows {
		list := unhex(r.b)
		codes := append(unhex("02 05 00 41 80 00 0b"), shortest().name(string(append([]byte{0}, list...)))...)
		b := slices.Concat(behindHead(ahead), shortest().section(10, codes))
		checkShows(t, b, noCaps(), invalid(r.code, r.at+40))
	}
	aligned := behindHead(oneFunc + oneMem + "0a 0a 01 08 00 41 00 28 03 00 1a 0b")
	checkShows(t, aligned, noCaps(), invalid(impl.VaAlign, 8+15+10))
}

// TestFlawsShow has every flaw of the tests of chapter 6: its verdict has the
// Err of Validate, and the machine knows the byte.
func TestFlawsShow(t *testing.T) {
	k := newMaker(71)
	loose := layout{longer: func() int { return max(0, k.Intn(8)-5) }}
	for _, f := range slices.Concat(importFlaws(), ownFlaws(), listFlaws(), elementFlaws(), missingFlaws()) {
		m := soundModule()
		f.do(&m)
		for _, b := range [][]byte{impl.Encode(m), loose.module(m)} {
			v := sightOf(b, noCaps()).verdict()
			if v.Kind != impl.VkInvalid || v.Code != f.want.Err {
				t.Fatalf("%s: the machine of the tests has %+v, want %+v", f.name, v, f.want)
			}
			checkShows(t, b, noCaps(), v)
		}
	}
}

// TestTwoAtOneByte has what counts ahead, at one byte, of which of the others.
func TestTwoAtOneByte(t *testing.T) {
	free := noCaps()
	rows := []struct {
		b    string
		lim  impl.Caps
		want impl.VerdictRes
	}{
		// of the bytes and a cap
		{"00 02 02 61", withCap(free, 9, 1), malformed(impl.BinSize, 11)},
		{"00 03 02 61 61", withCap(free, 9, 1), overCap(9, 11)},
		{"07 05 01 04 61 00 00", withCap(free, 9, 0), malformed(impl.BinSize, 12)},
		{oneFunc + "0a 0c 01 0a 02 ff ff ff ff 0f 7f 01 7f 0b", withCap(free, 6, 1<<32-1), malformed(impl.BinLocals, 30)},
		{oneFunc + "0a 0c 01 0a 02 ff ff ff ff 0f 7f 01 7f 0b", withCap(free, 6, 1<<32-2), overCap(6, 28)},
		{oneFunc + "0a 0a 01 08 00 0e 80 80 80 80 10 0b", withCap(free, 8, 0), malformed(impl.BinLeb, 29)},
		// two caps
		{oneType + "02 05 01 00 00 00 00", impl.Caps{Types: 1}, overCap(2, 21)},
		{oneType + "02 05 01 00 00 00 00", withCap(impl.Caps{Types: 1}, 2, 1), overCap(3, 21)},
		{"02 06 01 00 00 03 7f 00", impl.Caps{}, overCap(2, 16)},
		{"02 06 01 00 00 03 7f 00", withCap(impl.Caps{}, 2, 1), overCap(4, 16)},
		{"02 06 01 00 00 02 00 00", withCap(impl.Caps{}, 2, 1), accepted(16)},
		// a cap and what is not valid
		{"02 05 01 00 00 00 00", withCap(free, 2, 0), overCap(2, 15)},
		{"02 05 01 00 00 00 00", withCap(free, 3, 0), overCap(3, 15)},
		{"02 07 01 00 00 02 01 02 01", withCap(free, 2, 0), overCap(2, 17)},
		{"02 07 01 00 00 02 01 02 01", impl.Caps{Imports: 1}, invalid(impl.VaLimits, 17)},
		{"03 02 01 00", withCap(free, 3, 0), overCap(3, 12)},
		{"06 05 01 7f 00 01 0b", withCap(free, 4, 0), overCap(4, 15)},
		{"06 05 01 7f 00 01 0b", withCap(free, 4, 1), invalid(impl.VaConst, 15)},
		{"07 04 01 00 00 00", withCap(free, 5, 0), overCap(5, 14)},
		{oneTable + "09 07 01 00 41 00 0b 01 00", withCap(free, 10, 0), overCap(10, 23)},
		{oneTable + "09 07 01 00 41 00 0b 01 00", withCap(free, 10, 1), invalid(impl.VaIndex, 23)},
		// the last byte and the end behind it
		{"0c", free, malformed(impl.BinSection, 9)},
		{oneType, impl.Caps{}, overCap(1, 14)},
		{"03 02 01 00", free, invalid(impl.VaIndex, 12)},
		{oneFunc, withCap(free, 3, 0), overCap(3, 18)},
		{oneFunc, free, malformed(impl.BinCount, 18)},
		{oneFunc + "08 01 01", free, invalid(impl.VaIndex, 21)},
		{oneTable + "09 07 01 00 01", free, invalid(impl.VaConst, 19)},
	}
	for _, r := range rows {
		b := behindHead(r.b)
		if openVerdict(r.want, len(b)) {
			checkOpen(t, b, r.lim, r.want)
		} else {
			checkShows(t, b, r.lim, r.want)
		}
	}
}

// TestWhatShowsFirst has two faults at two bytes that lie close together: the
// first byte counts, whatever they are.
func TestWhatShowsFirst(t *testing.T) {
	free := noCaps()
	rows := []struct {
		b    string
		lim  impl.Caps
		want impl.VerdictRes
	}{
		{"06 06 01 7f 00 01 06 0b", free, malformed(impl.BinOp, 15)},
		{"06 07 01 7f 00 01 02 40 0b", withCap(free, 7, 0), overCap(7, 15)},
		{"06 07 01 7f 00 01 02 41 0b", free, malformed(impl.BinForm, 16)},
		{"06 05 01 7f 00 01 0b", withCap(free, 7, 0), invalid(impl.VaConst, 15)},
		{oneTable + "09 07 01 00 02 40 0b 0b 00", withCap(free, 7, 0), overCap(7, 19)},
		{oneTable + "09 07 01 00 02 40 0b 0b 00", withCap(free, 7, 1), invalid(impl.VaConst, 20)},
		{oneTable + "09 0a 01 00 0e 01 00 00 41 00 0b 00", withCap(free, 8, 0), overCap(8, 20)},
		{oneTable + "09 0a 01 00 0e 01 00 00 41 00 0b 00", withCap(free, 8, 1), invalid(impl.VaConst, 22)},
		{oneFunc + "0a 06 01 04 00 04 40 0b 0b", withCap(free, 7, 0), overCap(7, 24)},
		{oneFunc + "0a 06 01 04 00 04 40 0b 0b", free, invalid(impl.VaType, 25)},
		{oneFunc + "0a 06 01 04 00 04 41 0b 0b", free, malformed(impl.BinForm, 25)},
		{oneFunc + "0a 07 01 05 00 0e 01 09 00", free, invalid(impl.VaIndex, 27)},
		{oneFunc + "0a 07 01 05 00 0e 01 09 00", withCap(free, 8, 0), overCap(8, 25)},
		{oneFunc + "0a 05 01 03 00 1a 06", free, invalid(impl.VaType, 24)},
		{oneFunc + "0a 05 01 03 00 06 1a", free, malformed(impl.BinOp, 24)},
		{"09 04 01 00 0b 00", withCap(free, 10, 0), invalid(impl.VaIndex, 12)},
		{"09 04 01 01 0b 00", free, malformed(impl.BinForm, 12)},
		{"02 08 01 00 00 01 70 01 02 01 0c", free, invalid(impl.VaLimits, 18)},
		{"02 07 01 00 00 01 70 01 02 01 0c", free, malformed(impl.BinSize, 18)},
		{"02 06 01 01 61 00 04", withCap(free, 9, 0), overCap(9, 12)},
	}
	for _, r := range rows {
		checkShows(t, behindHead(r.b), r.lim, r.want)
	}
}

func TestBytesMaxOfVerdicts(t *testing.T) {
	free := noCaps()
	custom := grown()["custom"]
	full := shortest().module(custom(65536 - len(shortest().module(custom(60000))) + 60000))
	if len(full) != 65536 {
		t.Fatalf("%d bytes", len(full))
	}
	long := malformed(impl.BinLong, 65537)
	size := len(full) - 1
	last := func(end string) []byte { // the last bytes of BytesMax
		b := unhex(end)
		return append(shortest().module(custom(65536-len(b)-len(shortest().module(custom(60000)))+60000)), b...)
	}
	rows := []struct {
		b    []byte
		want impl.VerdictRes
	}{
		{full, accepted(65536)},
		{full[:size], malformed(impl.BinEnd, 65535)},
		{append(slices.Clone(full), 0x00), long},
		{append(slices.Clone(full), 0x0c), long},
		{append(slices.Clone(full), make([]byte, 100000)...), long},
		{make([]byte, 65536), malformed(impl.BinMagic, 2)},
		{make([]byte, 65537), malformed(impl.BinMagic, 2)},
		{make([]byte, 1<<20), malformed(impl.BinMagic, 2)},
		{last("0c"), malformed(impl.BinSection, 65536)},
		{append(last("0c"), 0x0c, 0x0c), malformed(impl.BinSection, 65536)},
		{append(last("00"), 0x00), long},
		{append(last("01 00"), 0x00), long},
		{append(last("01 01"), 0x00, 0x00), long},
		{last("01 80 80 80 80 10"), malformed(impl.BinLeb, 65536)},
		{append(last("01 80 80 80 80"), 0x10), long},
		{last("03 02 01 00"), invalid(impl.VaIndex, 65536)},
		{append(last("03 02 01 00"), 0x00), invalid(impl.VaIndex, 65536)},
		{append(last("03 02 01"), 0x00), long},
		{last(oneFunc), malformed(impl.BinCount, 65536)},
		{append(last(oneFunc), 0x00), long},
		{last("01 04 01 60 00"), malformed(impl.BinEnd, 65536)},
		{append(last("01 04 01 60 00"), 0x00), long},
	}
	for i, r := range rows {
		if got := impl.Verdict(r.b, free); got != r.want {
			t.Errorf("row %d, %d bytes: %+v, want %+v", i, len(r.b), got, r.want)
		}
		if ref := sightOf(r.b, free).verdict(); ref != r.want {
			t.Errorf("row %d, %d bytes: the machine of the tests has %+v, want %+v", i, len(r.b), ref, r.want)
		}
	}
	capped := append(last(oneType), 0x00)
	if got := impl.Verdict(capped, withCap(free, 1, 0)); got != overCap(1, 65536) {
		t.Errorf("a cap at BytesMax: %+v", got)
	}
	if got := impl.Verdict(full, withCap(free, 9, 0)); got != overCap(9, 13) {
		t.Errorf("a cap ahead of BytesMax: %+v", got)
	}
	if !bytes.Equal(capped, append(last(oneType), 0x00)) {
		t.Errorf("the argument was written to")
	}
}
