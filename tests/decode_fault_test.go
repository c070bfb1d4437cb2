package tests

import (
	"bytes"
	"encoding/hex"
	"fmt"
	"slices"
	"strings"
	"testing"

	"loop.example/s00119/impl"
)

// faultRow is a text behind the first eight bytes, and what is said of it, At
// being counted from behind the eight.
type faultRow struct {
	b   string
	err int64
	at  int64
}

func checkFaults(t *testing.T, rows []faultRow) {
	t.Helper()
	for _, r := range rows {
		b := append([]byte(headBytes), unhex(r.b)...)
		want := verdict{r.err, r.at + 8}
		if r.err == 0 {
			want = verdict{}
		}
		if got := decodeVerdict(b); got != want {
			t.Errorf("%s: %+v, want %+v", r.b, got, want)
		}
		if got := machineVerdict(b); got != want {
			t.Errorf("%s: the machine of the tests has %+v, want %+v", r.b, got, want)
		}
		if d := impl.Decode(b); d.Err != 0 && !same(d.Module, impl.Module{}) {
			t.Errorf("%s: a module beside a fault", r.b)
		}
	}
}

// fill puts each of texts where a row has a "_".
func fill(row faultRow, texts ...string) []faultRow {
	var rows []faultRow
	for _, text := range texts {
		rows = append(rows, faultRow{strings.ReplaceAll(row.b, "_", text), row.err, row.at})
	}
	return rows
}

// otherBytes has every byte that is none of these.
func otherBytes(but ...byte) []string {
	var out []string
	for c := range 256 {
		if !slices.Contains(but, byte(c)) {
			out = append(out, fmt.Sprintf("%02x", c))
		}
	}
	return out
}

func TestFirstEightBytes(t *testing.T) {
	for place := range 8 {
		for c := range 256 {
			for _, rest := range []string{"", headBytes[place+1:], "\xff", "\x00\x00\x00\x00\x00\x00\x00\x00"} {
				b := []byte(headBytes[:place] + string([]byte{byte(c)}) + rest)
				if byte(c) == headBytes[place] {
					continue
				}
				if got := decodeVerdict(b); got != (verdict{impl.BinMagic, int64(place) + 1}) {
					t.Errorf("% x: %+v", b, got)
				}
			}
		}
		if got := decodeVerdict([]byte(headBytes[:place])); got != (verdict{impl.BinEnd, int64(place)}) {
			t.Errorf("%d of the first eight: %+v", place, got)
		}
	}
	if got := impl.Decode(nil); !same(got, impl.DecRes{Err: impl.BinEnd}) {
		t.Errorf("nothing: %+v", got)
	}
	if got := impl.Decode([]byte(headBytes)); !same(got, impl.DecRes{}) {
		t.Errorf("the empty module: %+v", got)
	}
}

func TestSectionNumbers(t *testing.T) {
	var high []string
	for n := 12; n < 256; n++ {
		high = append(high, fmt.Sprintf("%02x", n))
	}
	checkFaults(t, fill(faultRow{"_", impl.BinSection, 1}, high...))
	checkFaults(t, fill(faultRow{"00 01 00 _ 01 00", impl.BinSection, 4}, high...))
	checkFaults(t, fill(faultRow{"0b 01 00 _ 80 80 80 80 80", impl.BinSection, 4}, high...))
	for a := 1; a < 12; a++ {
		for b := 1; b < 12; b++ {
			first := fmt.Sprintf("%02x 01 00", a)
			for _, between := range []string{"", "00 01 00", "00 01 00 00 02 00 07"} {
				at := int64(len(unhex(first + between)))
				for _, rest := range []string{"", "01", "01 00", "ff ff ff ff ff"} {
					if b <= a {
						checkFaults(t, []faultRow{{first + between + fmt.Sprintf("%02x", b) + rest, impl.BinOrder, at + 1}})
					}
				}
				if b > a {
					checkFaults(t, []faultRow{{first + between + fmt.Sprintf("%02x 01 00", b), 0, 0}})
				}
			}
		}
	}
	// A section that is empty counts for the order as any other.
	checkFaults(t, []faultRow{
		{"03 01 00 03", impl.BinOrder, 4},
		{"03 01 00 01 01 00", impl.BinOrder, 4},
		{"00 01 00 00 01 00 00 01 00", 0, 0},
		{"01 01 00 00 01 00 01 01 00", impl.BinOrder, 7},
		{"0b 01 00 00 01 00 0a 01 00", impl.BinOrder, 7},
	})
}

func TestSizesOfSections(t *testing.T) {
	checkFaults(t, []faultRow{
		{"01", impl.BinEnd, 1},
		{"01 80", impl.BinEnd, 2},
		{"01 00", impl.BinEnd, 2},
		{"01 00 00", impl.BinSize, 3},
		{"01 00 ff", impl.BinSize, 3},
		{"01 01", impl.BinEnd, 2},
		{"01 01 00", 0, 0},
		{"01 81 80 80 80 00 00", 0, 0},
		{"01 81 80 80 80 80 00 00", impl.BinLeb, 6},
		{"01 81 80 80 80 10 00", impl.BinLeb, 6},
		// The last entry ends before the end: it is the next byte that tells.
		{"01 02 00", impl.BinEnd, 3},
		{"01 02 00 00", impl.BinSize, 4},
		{"01 02 00 ff", impl.BinSize, 4},
		{"01 05 01 60 00 00", impl.BinEnd, 6},
		{"01 05 01 60 00 00 01", impl.BinSize, 7},
		{"01 ff ff ff ff 0f 00", impl.BinEnd, 7},
		{"01 ff ff ff ff 0f 00 00", impl.BinSize, 8},
		// The end comes before the last entry.
		{"01 03 01 60 00 00", impl.BinSize, 6},
		{"01 03 01 60 00", impl.BinEnd, 5},
		{"01 01 01", impl.BinEnd, 3},
		{"01 01 01 60", impl.BinSize, 4},
		{"01 01 80", impl.BinEnd, 3},
		{"01 01 80 00", impl.BinSize, 4},
		// The end comes ahead of what the byte behind it would show.
		{"01 05 80 80 80 80 80", impl.BinLeb, 7},
		{"01 04 80 80 80 80 80", impl.BinSize, 7},
		{"01 04 80 80 80 80", impl.BinEnd, 6},
		{"01 02 01 60 80", impl.BinSize, 5},
		{"01 01 01 ff", impl.BinSize, 4},
		{"08 00 05", impl.BinSize, 3},
		{"08 01 05", 0, 0},
		{"08 02 05", impl.BinEnd, 3},
		{"08 02 05 00", impl.BinSize, 4},
		{"08 02 85 00", 0, 0},
		{"08 01 85 00", impl.BinSize, 4},
		{"08 05 ff ff ff ff 0f", 0, 0},
		{"08 05 ff ff ff ff 1f", impl.BinLeb, 7},
		// In nothing, there is no end that a size could pass.
		{"00 ff ff ff ff 0f", impl.BinEnd, 6},
		{"00 ff ff ff ff 0f 00", impl.BinEnd, 7},
		{"00 80 80 04 01 61 00 00", impl.BinEnd, 8},
		{"00 80 80 80 80 10", impl.BinLeb, 6},
	})
}

func TestSizesOfCustomsAndNames(t *testing.T) {
	checkFaults(t, []faultRow{
		{"00 00", impl.BinEnd, 2},
		{"00 00 00", impl.BinSize, 3},
		{"00 01 00", 0, 0},
		{"00 01 01", impl.BinSize, 3},
		{"00 01 80", impl.BinEnd, 3},
		{"00 01 80 00", impl.BinSize, 4},
		{"00 02 80 00", 0, 0},
		{"00 02 01", impl.BinEnd, 3},
		{"00 02 01 61", 0, 0},
		{"00 02 02", impl.BinSize, 3},
		{"00 02 02 ff ff", impl.BinSize, 3},
		{"00 03 81 00 61", 0, 0},
		{"00 03 82 00 61", impl.BinSize, 4},
		{"00 03 01 61", impl.BinEnd, 4},
		{"00 03 01 61 ff", 0, 0},
		{"00 03 01 61 ff 00", impl.BinEnd, 6},
		{"00 06 ff ff ff ff 0f 61", impl.BinSize, 7},
		{"00 06 ff ff ff ff 1f 61", impl.BinLeb, 7},
		{"00 04 ff ff ff ff 0f", impl.BinSize, 7},
		{"00 20 05 61 62", impl.BinEnd, 5},
		{"00 20 05 61 ff", impl.BinUtf8, 5},
		// An export's name.
		{"07 05 01 01 61 00 00", 0, 0},
		{"07 05 01 03 61 00 00", impl.BinEnd, 7},
		{"07 05 01 03 61 00 00 00", impl.BinSize, 8},
		{"07 05 01 04 61 00 00", impl.BinSize, 4},
		{"07 05 01 05 61 00 00", impl.BinSize, 4},
		{"07 05 01 00 00 00 00", impl.BinSize, 7},
		{"07 04 01 00 00 00", 0, 0},
		{"07 03 01 00 00", impl.BinEnd, 5},
		{"07 03 01 00 00 00", impl.BinSize, 6},
		// Both names of an import.
		{"02 05 01 00 00 00 00", 0, 0},
		{"02 05 01 04 00 00 00", impl.BinSize, 4},
		{"02 05 01 00 02 00 00", impl.BinEnd, 7},
		{"02 05 01 00 02 00 00 00", impl.BinSize, 8},
		{"02 05 01 00 03 00 00 00", impl.BinSize, 5},
	})
}

func TestSizesOfCodes(t *testing.T) {
	checkFaults(t, []faultRow{
		{"03 02 01 00 0a 04 01 02 00 0b", 0, 0},
		{"03 02 01 00 0a 05 01 82 00 00 0b", 0, 0},
		// Too great for the section, with and without the bytes for it.
		{"03 02 01 00 0a 04 01 03 00 0b", impl.BinSize, 8},
		{"03 02 01 00 0a 04 01 03 00 0b 00 00", impl.BinSize, 8},
		{"03 02 01 00 0a 04 01 7f", impl.BinSize, 8},
		{"03 02 01 00 0a 08 01 ff ff ff ff 0f 00 0b", impl.BinSize, 12},
		{"03 02 01 00 0a 05 01 83 00 00 0b", impl.BinSize, 9},
		{"03 02 01 00 0a 02 01 82 00", impl.BinSize, 9},
		{"03 02 01 00 0a 01 01 02", impl.BinSize, 8},
		{"03 02 01 00 0a 01 01", impl.BinEnd, 7},
		// Too small: the code ends ahead of its last item.
		{"03 02 01 00 0a 04 01 01 00 0b", impl.BinSize, 10},
		{"03 02 01 00 0a 04 01 01 00", impl.BinEnd, 9},
		{"03 02 01 00 0a 04 01 00 00 0b", impl.BinSize, 9},
		{"03 02 01 00 0a 02 01 00", impl.BinEnd, 8},
		{"03 02 01 00 0a 02 01 00 00", impl.BinSize, 9},
		// The last end comes before the code's end.
		{"03 02 01 00 0a 05 01 03 00 0b 0b", impl.BinSize, 11},
		{"03 02 01 00 0a 05 01 03 00 0b", impl.BinEnd, 10},
		// The code's end comes before the section's.
		{"03 02 01 00 0a 05 01 02 00 0b", impl.BinEnd, 10},
		{"03 02 01 00 0a 05 01 02 00 0b 00", impl.BinSize, 11},
		// The section's end is the code's too; the section's alone is passed.
		{"03 03 02 00 00 0a 04 02 02 00 0b", impl.BinEnd, 11},
		{"03 03 02 00 00 0a 04 02 02 00 0b 02", impl.BinSize, 12},
		{"03 03 02 00 00 0a 05 02 02 00 0b 00", impl.BinEnd, 12},
		{"03 03 02 00 00 0a 05 02 02 00 0b 00 00", impl.BinSize, 13},
		{"03 03 02 00 00 0a 07 02 02 00 0b 03 00 0b", impl.BinSize, 12},
		{"03 03 02 00 00 0a 07 02 03 00 01 0b 02 00 0b", impl.BinSize, 13},
		{"03 03 02 00 00 0a 07 02 02 00 0b 02 00 0b", 0, 0},
		// Within a number, a float, a group and a table of labels.
		{"03 02 01 00 0a 05 01 02 00 20 80", impl.BinSize, 11},
		{"03 02 01 00 0a 05 01 03 00 20 80 80", impl.BinSize, 12},
		{"03 02 01 00 0a 05 01 03 00 20 80", impl.BinEnd, 11},
		{"03 02 01 00 0a 08 01 05 00 43 00 00 00 00 0b", impl.BinSize, 14},
		{"03 02 01 00 0a 05 01 02 01 01 7f 0b", impl.BinSize, 11},
		{"03 02 01 00 0a 05 01 02 01 01", impl.BinEnd, 10},
		{"03 02 01 00 0a 06 01 04 00 0e 05 00 00 0b", impl.BinSize, 13},
		{"03 02 01 00 0a 06 01 04 ff ff ff ff 0f", impl.BinSize, 13},
	})
}

func TestSizesOfVectorsOfBytes(t *testing.T) {
	checkFaults(t, []faultRow{
		{"0b 04 01 00 0b 00", 0, 0},
		{"0b 06 01 00 0b 02 ff fe", 0, 0},
		{"0b 06 01 00 0b 03 ff fe", impl.BinSize, 6},
		{"0b 06 01 00 0b 03 ff fe 00", impl.BinSize, 6},
		{"0b 07 01 00 0b 83 00 ff fe", impl.BinSize, 7},
		{"0b 07 01 00 0b 82 00 ff fe", 0, 0},
		{"0b 06 01 00 0b 01 ff fe", impl.BinSize, 8},
		{"0b 05 01 00 0b 01", impl.BinEnd, 6},
		{"0b 06 01 00 0b 02 ff", impl.BinEnd, 7},
		{"0b 06 01 00 0b 01 ff", impl.BinEnd, 7},
		{"0b 08 01 00 0b ff ff ff ff 0f", impl.BinSize, 10},
		{"0b 03 01 00 0b", impl.BinEnd, 5},
		{"0b 03 01 00 0b 00", impl.BinSize, 6},
		{"0b 03 01 00 0b 80", impl.BinSize, 6},
		{"0b 07 02 00 0b 00 00 0b 00", 0, 0},
		{"0b 07 02 00 0b 03 00 0b 00", impl.BinEnd, 9},
		{"0b 07 02 00 0b 03 00 0b 00 00", impl.BinSize, 10},
		{"0b 07 02 00 0b 04 00 0b 00 00", impl.BinSize, 6},
	})
}

// Every byte that must be one of some values: all others are refused, whatever
// follows, and those are not.
func TestBytesOfSomeValues(t *testing.T) {
	types := []byte{0x7f, 0x7e, 0x7d, 0x7c}
	rows := []struct {
		ahead string
		good  []byte
	}{
		{"01 14 01", []byte{0x60}},
		{"01 14 01 60 01", types},
		{"01 14 01 60 02 7f", types},
		{"01 14 01 60 00 01", types},
		{"02 14 01 00 00", []byte{0, 1, 2, 3}},
		{"02 14 01 00 00 01", []byte{0x70}},
		{"02 14 01 00 00 01 70", []byte{0, 1}},
		{"02 14 01 00 00 02", []byte{0, 1}},
		{"02 14 01 00 00 03", types},
		{"02 14 01 00 00 03 7f", []byte{0, 1}},
		{"04 14 01", []byte{0x70}},
		{"04 14 01 70", []byte{0, 1}},
		{"05 14 01", []byte{0, 1}},
		{"06 14 01", types},
		{"06 14 01 7d", []byte{0, 1}},
		{"07 14 01 00", []byte{0, 1, 2, 3}},
		{"09 14 01", []byte{0}},
		{"0b 14 01", []byte{0}},
		{"03 02 01 00 0a 14 01 12 01 05", types},
		{"03 02 01 00 0a 14 01 12 02 00 7f 05", types},
		{"03 02 01 00 0a 14 01 12 00 02", append(types, 0x40)},
		{"03 02 01 00 0a 14 01 12 00 03", append(types, 0x40)},
		{"03 02 01 00 0a 14 01 12 00 04", append(types, 0x40)},
		{"03 02 01 00 0a 14 01 12 00 11 00", []byte{0}},
		{"03 02 01 00 0a 14 01 12 00 11 80 00", []byte{0}},
		{"03 02 01 00 0a 14 01 12 00 3f", []byte{0}},
		{"03 02 01 00 0a 14 01 12 00 40", []byte{0}},
		{"06 14 01 7f 00 02", append(types, 0x40)},
		{"09 14 01 00 3f", []byte{0}},
		{"0b 14 01 00 11 00", []byte{0}},
	}
	for _, r := range rows {
		at := int64(len(unhex(r.ahead))) + 1
		for _, rest := range []string{"", "00", "7f 00 00", "ff ff ff", strings.Repeat("00", 20)} {
			checkFaults(t, fill(faultRow{r.ahead + " _ " + rest, impl.BinForm, at}, otherBytes(r.good...)...))
		}
		for _, c := range r.good {
			checkFaults(t, []faultRow{{fmt.Sprintf("%s %02x", r.ahead, c), impl.BinEnd, at}})
		}
	}
}

func TestNumberOfResults(t *testing.T) {
	checkFaults(t, []faultRow{
		{"01 04 01 60 00 00", 0, 0},
		{"01 05 01 60 00 01 7f", 0, 0},
		{"01 05 01 60 00 80 00", 0, 0},
		{"01 06 01 60 00 81 00 7f", 0, 0},
		{"01 06 01 60 00 02 7f 7f", impl.BinForm, 6},
		{"01 06 01 60 00 02", impl.BinForm, 6},
		{"01 04 01 60 00 02", impl.BinForm, 6},
		{"01 07 01 60 00 82 00 7f 7f", impl.BinForm, 7},
		{"01 09 01 60 00 ff ff ff ff 0f", impl.BinForm, 10},
		{"01 09 01 60 00 ff ff ff ff 1f", impl.BinLeb, 10},
		{"01 07 01 60 00 80 80 80 80 10", impl.BinSize, 10},
		{"01 07 02 60 00 00 60 00 02", impl.BinForm, 9},
		{"01 05 01 60 00 01 40", impl.BinForm, 7},
		{"01 04 01 60 00 01 7f", impl.BinSize, 7},
		{"01 04 01 60 00 01", impl.BinEnd, 6},
	})
}

func TestNamesThatAreRead(t *testing.T) {
	// What stands ahead of a name in its section, and behind it.
	places := []struct {
		number int64
		ahead  string
		behind string
	}{
		{0, "", ""}, {0, "", "ff fe"}, {2, "01", "00 00 00"}, {2, "01 01 61", "02 00 01"}, {7, "01", "03 00"}, {7, "02 00 00 00", "01 07"},
	}
	texts := []struct {
		b  string
		at int64 // the byte that is wrong, 0 if there is none
	}{
		{"", 0}, {"61", 0}, {"00", 0}, {"7f", 0}, {"c2 80", 0}, {"df bf", 0}, {"e0 a0 80", 0}, {"ed 9f bf", 0}, {"ee 80 80", 0}, {"f0 90 80 80", 0}, {"f4 8f bf bf", 0},
		{"61 c3 a9 62", 0}, {"80", 1}, {"bf", 1}, {"c0", 1}, {"c1", 1}, {"f5", 1}, {"ff", 1}, {"c0 80", 1}, {"61 ff", 2}, {"61 ff 61", 2}, {"c2", 1}, {"61 c2", 2}, {"e2 82", 2}, {"f0 9f 98", 3},
		{"c2 41", 2}, {"c2 c2 80", 2}, {"e0 9f 80", 2}, {"e0 80", 2}, {"ed a0 80", 2}, {"ed bf bf", 2}, {"f0 8f bf bf", 2}, {"f4 90 80 80", 2}, {"e2 82 41", 3}, {"e2 28 a1", 2}, {"f0 9f 98 41", 4}, {"f0 9f 41 80", 3},
		{"61 62 63 f1", 4}, {"c3 a9 c3", 3}, {"61 80 80", 2},
	}
	for _, p := range places {
		for _, x := range texts {
			for longer := range 5 {
				l := layout{longer: func() int { return longer }}
				ahead := slices.Concat(unhex(p.ahead), l.u32(int64(len(unhex(x.b)))))
				content := slices.Concat(ahead, unhex(x.b), unhex(p.behind))
				whole := l.section(p.number, content)
				start := len(whole) - len(content) + len(ahead)
				if x.at == 0 {
					checkFaults(t, []faultRow{{hex.EncodeToString(whole), 0, 0}})
					continue
				}
				want := int64(start) + x.at
				for _, b := range [][]byte{whole, slices.Concat(whole, []byte{0, 1, 0}), whole[:want]} {
					checkFaults(t, []faultRow{{hex.EncodeToString(b), impl.BinUtf8, want}})
				}
			}
		}
	}
	// A name whose bytes end with the text has none that shows a fault.
	checkFaults(t, []faultRow{
		{"00 05 03 e2 82", impl.BinEnd, 5},
		{"00 05 03 e2", impl.BinEnd, 4},
		{"00 05 02 e2 82", impl.BinUtf8, 5},
		{"00 05 03 e2 41", impl.BinUtf8, 5},
		{"00 04 03 e2 82 ac", 0, 0},
		{"00 04 02 e2 82 ac", impl.BinUtf8, 5},
		{"00 04 04 e2 82 ac", impl.BinSize, 3},
	})
}

func TestOpcodesInLists(t *testing.T) {
	known := []byte{}
	for _, w := range allOps() {
		known = append(known, byte(w.op))
	}
	checkFaults(t, fill(faultRow{"03 02 01 00 0a 14 01 12 00 _", impl.BinOp, 10}, otherBytes(known...)...))
	checkFaults(t, fill(faultRow{"03 02 01 00 0a 14 01 12 00 01 02 40 _ 0b 0b", impl.BinOp, 13}, otherBytes(known...)...))
	checkFaults(t, fill(faultRow{"06 14 01 7f 00 _ 0b", impl.BinOp, 6}, otherBytes(known...)...))
	checkFaults(t, fill(faultRow{"09 14 01 00 _", impl.BinOp, 5}, otherBytes(known...)...))
	checkFaults(t, fill(faultRow{"0b 14 01 00 _", impl.BinOp, 5}, otherBytes(known...)...))
}

// listFrames has every place of a list: what stands ahead of the list and
// behind it in the section with this number.
func listFrames(list []byte) map[int64][2][]byte {
	size := byte(len(list))
	return map[int64][2][]byte{
		6:  {{0x01, 0x7e, 0x01}, {}},
		9:  {{0x01, 0x00}, {0x00}},
		10: {{0x01, size + 1, 0x00}, {}},
		11: {{0x01, 0x00}, {0x00}},
	}
}

func TestElseInLists(t *testing.T) {
	lists := []struct {
		b  string
		at int64 // the byte that is wrong, 0 if there is none
	}{
		{"0b", 0}, {"01 0b", 0}, {"02 40 0b 0b", 0}, {"04 40 05 0b 0b", 0}, {"04 40 04 40 05 0b 05 0b 0b", 0}, {"04 40 02 40 0b 05 0b 0b", 0}, {"04 40 05 04 40 05 0b 0b 0b", 0},
		{"05 0b", 1}, {"01 05 0b", 2}, {"02 40 05 0b 0b", 3}, {"03 40 05 0b 0b", 3}, {"04 40 05 05 0b 0b", 4}, {"04 40 0b 05 0b", 4}, {"04 40 02 40 05 0b 0b 0b", 5}, {"04 40 03 7f 05 0b 0b 0b", 5},
		{"04 40 05 02 40 05 0b 0b 0b", 6}, {"04 40 04 40 05 0b 05 05 0b 0b", 8}, {"06 0b", 1}, {"02 40 c0 0b 0b", 3},
	}
	for _, x := range lists {
		list := unhex(x.b)
		for number, frame := range listFrames(list) {
			content := slices.Concat(frame[0], list, frame[1])
			text := slices.Concat([]byte{3, 2, 1, 0}, shortest().section(number, content))
			row := faultRow{hex.EncodeToString(text), 0, 0}
			if x.at > 0 {
				row.err, row.at = impl.BinOp, int64(len(text)-len(frame[1])-len(list))+x.at
			}
			if number < 10 {
				row.b += "0a 04 01 02 00 0b"
			}
			if number == 11 && x.at == 0 {
				row.err, row.at = impl.BinCount, int64(len(text))
			}
			checkFaults(t, []faultRow{row})
		}
	}
}

func TestGroupsThatAreRead(t *testing.T) {
	code := func(groups string) string {
		size := len(unhex(groups)) + 1
		return fmt.Sprintf("03 02 01 00 0a %02x 01 %02x %s 0b", size+2, size, groups)
	}
	checkFaults(t, []faultRow{
		{code("00"), 0, 0},
		{code("01 00 7f"), 0, 0},
		{code("01 ff ff ff ff 0f 7f"), 0, 0},
		{code("02 ff ff ff ff 0f 7f 00 7e"), 0, 0},
		{code("02 00 7e ff ff ff ff 0f 7f"), 0, 0},
		{code("02 ff ff ff ff 0f 7f 01 7e"), impl.BinLocals, 16},
		{code("02 ff ff ff ff 0f 7f 01 00"), impl.BinLocals, 16},
		{code("02 ff ff ff ff 0f 7f 81 80 80 80 00 7e"), impl.BinLocals, 20},
		{code("02 01 7e ff ff ff ff 0f 7f"), impl.BinLocals, 16},
		{code("02 80 80 80 80 08 7c ff ff ff ff 07 7d"), 0, 0},
		{code("02 80 80 80 80 08 7c 80 80 80 80 08 7d"), impl.BinLocals, 20},
		{code("03 80 80 80 80 08 7c ff ff ff ff 07 7d 00 7f"), 0, 0},
		{code("03 80 80 80 80 08 7c ff ff ff ff 07 7d 01 7f"), impl.BinLocals, 22},
		{code("02 ff ff ff ff 0f 7f ff ff ff ff 1f 7f"), impl.BinLeb, 20},
		{code("02 ff ff ff ff 0f 40 01 7e"), impl.BinForm, 15},
		// Each body has its own.
		{"03 03 02 00 00 0a 13 02 08 01 ff ff ff ff 0f 7f 0b 08 01 ff ff ff ff 0f 7f 0b", 0, 0},
		// The byte that is one too many is not looked at.
		{"03 02 01 00 0a 0b 01 07 02 ff ff ff ff 0f 7f 01 7f 0b", impl.BinSize, 16},
	})
}

func TestFunctionsAndCodes(t *testing.T) {
	checkFaults(t, []faultRow{
		{"0a 01 00", 0, 0},
		{"03 01 00", 0, 0},
		{"03 01 00 0a 01 00", 0, 0},
		{"03 01 00 0a 02 80 00", 0, 0},
		{"03 02 01 00", impl.BinCount, 4},
		{"03 04 03 00 00 00", impl.BinCount, 6},
		{"03 02 01 00 00 01 00", impl.BinCount, 7},
		{"03 02 01 00 0b 01 00", impl.BinCount, 7},
		{"03 02 01 00 0b 04 01 00 0b 00", impl.BinCount, 10},
		{"03 02 01 00 0b", impl.BinEnd, 5},
		{"03 02 01 00 0b 01 01", impl.BinEnd, 7},
		{"03 02 01 00 0c", impl.BinSection, 5},
		{"03 02 01 00 03", impl.BinOrder, 5},
		{"03 02 01 00 0b 01 00 0a", impl.BinOrder, 8},
		{"03 02 01 00 0a", impl.BinEnd, 5},
		{"03 02 01 00 0a 01", impl.BinEnd, 6},
		{"03 02 01 00 0a 01 00", impl.BinCount, 7},
		{"03 02 01 00 0a 01 02", impl.BinCount, 7},
		{"03 02 01 00 0a 02 82 00", impl.BinCount, 8},
		{"03 02 01 00 0a 05 ff ff ff ff 0f", impl.BinCount, 11},
		{"03 02 01 00 0a 05 ff ff ff ff 1f", impl.BinLeb, 11},
		{"03 02 01 00 0a 04 ff ff ff ff 0f", impl.BinSize, 11},
		{"03 02 01 00 0a 00 00", impl.BinSize, 7},
		{"0a 01 01", impl.BinCount, 3},
		{"0a 04 01 02 00 0b", impl.BinCount, 3},
		{"03 01 00 0a 01 01", impl.BinCount, 6},
		{"03 01 00 0a 04 01 02 00 0b", impl.BinCount, 6},
		{"03 03 02 00 00 0a 04 01 02 00 0b", impl.BinCount, 8},
		{"03 02 01 00 0a 06 02 02 00 0b 02 00 0b", impl.BinCount, 7},
		{"01 01 00 03 02 01 00 08 01 00", impl.BinCount, 10},
	})
}

func TestNumbersThatAreTooLong(t *testing.T) {
	places := []string{
		"01 14", "01 14 01 60", "01 14 01 60 00", "02 14", "02 14 01", "02 14 01 00", "02 14 01 00 00 00", "02 14 01 00 00 01 70 00",
		"02 14 01 00 00 02 01", "02 14 01 00 00 02 01 00", "03 14", "03 14 01", "04 14", "04 14 01 70 00", "04 14 01 70 01 00", "05 14", "05 14 01 00",
		"06 14", "06 14 01 7f 00 23", "07 14", "07 14 01", "07 14 01 00 00", "08 14", "09 14", "09 14 01 00 0b", "09 14 01 00 0b 01",
		"03 02 01 00 0a 14", "03 02 01 00 0a 14 01", "03 02 01 00 0a 14 01 12", "03 02 01 00 0a 14 01 12 01", "03 02 01 00 0a 14 01 12 00 0e", "03 02 01 00 0a 14 01 12 00 28 00",
		"0b 14", "0b 14 01 00 0b", "00 14", "01", "00", "0a",
	}
	for _, ahead := range places {
		at := int64(len(unhex(ahead))) + 5
		for _, n := range []string{"80 80 80 80 10", "80 80 80 80 20", "80 80 80 80 40", "ff ff ff ff 1f", "81 80 80 80 7f", "80 80 80 80 80", "80 80 80 80 8f", "ff ff ff ff ff", "80 80 80 80 80 00"} {
			checkFaults(t, []faultRow{{ahead + n, impl.BinLeb, at}, {ahead + n + "00 00 ff", impl.BinLeb, at}})
		}
		for n := range int64(5) {
			checkFaults(t, []faultRow{{ahead + strings.Repeat("80", int(n)), impl.BinEnd, at - 5 + n}})
		}
	}
}

// A custom's After is behind the last section that is not empty.
func TestAfterOfCustoms(t *testing.T) {
	rows := []struct {
		b     string
		after []int64
	}{
		{"00 01 00", []int64{0}},
		{"00 01 00 01 01 00 00 01 00", []int64{0, 0}},
		{"01 04 01 60 00 00 00 01 00 00 01 00", []int64{1, 1}},
		{"01 04 01 60 00 00 02 01 00 00 01 00 03 01 00 00 01 00", []int64{1, 1}},
		{"01 01 00 00 01 00 05 03 01 00 00 00 01 00 06 01 00 00 01 00", []int64{0, 5, 5}},
		{"08 01 00 00 01 00", []int64{8}},
		{"07 01 00 00 01 00 08 01 05 00 01 00 09 01 00 00 01 00 0a 01 00 00 01 00 0b 01 00 00 01 00", []int64{0, 8, 8, 8, 8}},
		{"03 02 01 00 00 01 00 0a 04 01 02 00 0b 00 01 00 0b 02 80 00 00 01 00", []int64{3, 10, 10}},
		{"02 01 00 00 01 00 04 01 00 00 01 00 05 01 00 00 01 00 06 01 00 00 01 00 0b 04 01 00 0b 00 00 01 00", []int64{0, 0, 0, 0, 11}},
	}
	for _, r := range rows {
		d := impl.Decode(append([]byte(headBytes), unhex(r.b)...))
		var after []int64
		for _, c := range d.Module.Customs {
			after = append(after, c.After)
		}
		if d.Err != 0 || !slices.Equal(after, r.after) || !impl.WellFormed(d.Module) {
			t.Errorf("%s: customs behind %v, want %v (fault %d at %d)", r.b, after, r.after, d.Err, d.At)
		}
	}
}

// Counts far beyond what there is cost nothing, and deep nests do not end it.
func TestGreatCounts(t *testing.T) {
	for _, ahead := range []string{"01", "02", "03", "04", "05", "06", "07", "09", "0b"} {
		checkFaults(t, []faultRow{
			{ahead + "05 ff ff ff ff 0f", impl.BinEnd, 7},
			{ahead + "05 ff ff ff ff 0f 00", impl.BinSize, 8},
		})
	}
	checkFaults(t, []faultRow{
		{"01 14 01 60 ff ff ff ff 0f 7f", impl.BinEnd, 10},
		{"09 14 01 00 0b ff ff ff ff 0f 00", impl.BinEnd, 11},
		{"03 02 01 00 0a 14 01 12 ff ff ff ff 0f 00 7f", impl.BinEnd, 15},
	})
	deep := func(depth int) impl.Module {
		body := append(slices.Repeat(insList(0x04), depth), slices.Repeat(insList(0x0b), depth+1)...)
		return impl.Module{Funcs: []int64{0}, Codes: []impl.Code{{Body: body}}}
	}
	for _, depth := range []int{1, 100, 21000} {
		m := deep(depth)
		b := impl.Encode(m)
		if d := impl.Decode(b); len(b) == 0 || d.Err != 0 || !same(d.Module, m) {
			t.Errorf("a nest %d deep: fault %d at %d", depth, d.Err, d.At)
		}
	}
	open := append([]byte(headBytes), unhex("03 02 01 00 0a 80 80 04 01 fa ff 03 00")...)
	open = append(open, bytes.Repeat([]byte{0x02, 0x40}, 30000)...)
	if got, want := decodeVerdict(open), (verdict{impl.BinEnd, int64(len(open))}); got != want {
		t.Errorf("a nest without ends: %+v, want %+v", got, want)
	}
}
