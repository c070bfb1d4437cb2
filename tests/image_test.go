package tests

import (
	"bytes"
	"fmt"
	"math"
	"reflect"
	"slices"
	"testing"

	"loop.example/s00119/impl"
)

// imageRow is a state and its image by hand.
type imageRow struct {
	state impl.State
	image string
}

func imageRows() []imageRow {
	running := func(frames ...impl.Frame) impl.State { return impl.State{Frames: frames} }
	rows := []imageRow{
		{impl.State{}, "53 01  00 00  00 00"},
		{impl.State{Status: 1}, "53 01  01 00  00 00"},
		{impl.State{Status: 1, Stack: ends(0)}, "53 01  01 00  01 0000000000000000  00"},
		{impl.State{Status: 1, Stack: ends(0x0123456789abcdef)}, "53 01  01 00  01 efcdab8967452301  00"},
		{impl.State{Status: 1, Stack: ends(1<<32 - 1)}, "53 01  01 00  01 ffffffff00000000  00"},
		{impl.State{Stack: ends(1<<64-1, 1, 1<<63)}, "53 01  00 00  03 ffffffffffffffff 0100000000000000 0000000000000080  00"},
		{running(impl.Frame{}), "53 01  00 00  00  01  00 00 00 00 00"},
		{running(impl.Frame{}, impl.Frame{Func: 1}), "53 01  00 00  00  02  00 00 00 00 00  01 00 00 00 00"},
		{running(impl.Frame{Func: 4, Pc: 5, Locals: ends(6, 7), Height: 8}), "53 01  00 00  00  01  04 05 02 0600000000000000 0700000000000000 08 00"},
		{running(impl.Frame{Labels: []impl.Label{{Pc: 1, Arity: 2, Height: 3}}}), "53 01  00 00  00  01  00 00 00 00 01  01 02 03 00"},
		{running(impl.Frame{Labels: []impl.Label{{Pc: 1, Arity: 2, Height: 3, Loop: true}, {}}}), "53 01  00 00  00  01  00 00 00 00 02  01 02 03 01  00 00 00 00"},
		{running(impl.Frame{Func: 300, Pc: 127, Height: 128, Labels: []impl.Label{{Pc: 16383, Arity: 16384, Height: math.MaxUint32}}}),
			"53 01  00 00  00  01  ac02 7f 00 8001 01  ff7f 808001 ffffffff0f 00"},
		{impl.State{Status: math.MaxUint32, Trap: 128}, "53 01  ffffffff0f 8001  00 00"},
		{fitsState(), "53 01  00 00  05 0100000000000000 0200000000000000 0000000000000080 ffffffff00000000 0700000000000000  03  " +
			"04 09 03 ffffffff00000000 0800000000000000 0000000000000080 00 03  13 01 01 00  04 00 02 01  0d 00 02 00  " +
			"05 05 03 0300000000000000 0400000000000000 ffffffffffffffff 02 00  " +
			"06 04 01 0000000000010000 04 02  0b 01 04 00  04 00 05 01"},
	}
	for trap := range int64(12) {
		rows = append(rows, imageRow{impl.State{Status: 2, Trap: trap}, fmt.Sprintf("53 01  02 %02x  00 00", trap)})
	}
	return rows
}

func TestImagesByHand(t *testing.T) {
	for _, r := range imageRows() {
		want := unhex(r.image)
		if got := impl.PutState(r.state); !bytes.Equal(got, want) {
			t.Errorf("%+v: % x, want % x", r.state, got, want)
		}
		if got := impl.GetState(want); !same(got, impl.StateRes{Ok: true, State: r.state}) {
			t.Errorf("% x: %+v, want %+v", want, got, r.state)
		}
		checkImage(t, r.image, r.state)
	}
}

// TestImageSizes: each kind of list with as many entries as need one byte more
// for their number.
func TestImageSizes(t *testing.T) {
	label := impl.Label{Pc: 3, Height: 1, Loop: true}
	for _, n := range []int{0, 1, 2, 126, 127, 128, 129, 255, 256, 5000, 16383, 16384} {
		values := make([]uint64, n)
		for i := range values {
			values[i] = uint64(i+1) * 0x0101010101010101
		}
		frame := impl.Frame{Func: 4, Pc: 9, Locals: values, Height: 2, Labels: slices.Repeat([]impl.Label{label}, n)}
		for i, state := range []impl.State{
			{Stack: values},
			{Frames: slices.Repeat([]impl.Frame{{Func: 1, Pc: 2, Locals: ends(3)}}, n)},
			{Frames: []impl.Frame{{Locals: values}}},
			{Frames: []impl.Frame{{Labels: slices.Repeat([]impl.Label{label}, n)}}},
			{Stack: values, Frames: []impl.Frame{{}, frame, {Func: 7}, frame}},
		} {
			what := fmt.Sprint("list ", i, " of ", n)
			if got := checkImage(t, what, state); len(got) == 0 {
				t.Errorf("%s: no image", what)
			}
		}
	}
}

// numberFields are all fields of a state that are numbers, by where they stand.
func numberFields(v reflect.Value, where string) map[string]reflect.Value {
	out := map[string]reflect.Value{}
	add := func(v reflect.Value, where string) {
		for at, field := range numberFields(v, where) {
			out[at] = field
		}
	}
	switch v.Kind() {
	case reflect.Int64:
		out[where] = v
	case reflect.Slice:
		for i := range v.Len() {
			add(v.Index(i), fmt.Sprint(where, " ", i))
		}
	case reflect.Struct:
		for i := range v.NumField() {
			add(v.Field(i), where+" "+v.Type().Field(i).Name)
		}
	}
	return out
}

// TestImageNumbers: each number of a state alone, at the edges and beyond them.
func TestImageNumbers(t *testing.T) {
	for _, r := range imageRows() {
		state := copyOf(r.state)
		for where, field := range numberFields(reflect.ValueOf(&state).Elem(), "State") {
			old := field.Int()
			for _, n := range u32s() {
				field.SetInt(n)
				if got := checkImage(t, where, state); len(got) == 0 {
					t.Errorf("%s: no image at %d", where, n)
				}
			}
			for _, n := range noU32s() {
				field.SetInt(n)
				if got := checkImage(t, where, state); len(got) != 0 {
					t.Errorf("%s: an image at %d: % x", where, n, got)
				}
			}
			field.SetInt(old)
		}
	}
	if fields := numberFields(reflect.ValueOf(fitsState()), ""); len(fields) != 2+3*3+5*3 {
		t.Errorf("%d fields", len(fields))
	}
}

// fullImages are states whose images have just as many bytes as may be, of
// each kind of list, and with each kind of thing at their end.
func fullImages() map[string]impl.State {
	label := impl.Label{Pc: 1, Arity: 1, Height: 1, Loop: true}
	return map[string]impl.State{
		"stack":       {Stack: slices.Repeat(ends(math.MaxUint64), 124999)},
		"locals":      {Trap: 1 << 7, Frames: []impl.Frame{{Func: 1, Locals: slices.Repeat(ends(math.MaxUint64), 124998), Height: 1 << 14}}},
		"labels":      {Frames: []impl.Frame{{Pc: 1 << 14, Height: 1 << 7, Labels: slices.Repeat([]impl.Label{label}, 249996)}}},
		"frames":      {Trap: 1 << 14, Frames: slices.Repeat([]impl.Frame{{Func: 1}}, 199998)},
		"all of them": {Stack: make([]uint64, 50000), Frames: []impl.Frame{{Locals: make([]uint64, 50000), Labels: slices.Repeat([]impl.Label{label}, 49994)}, {Pc: 1 << 14}}},
	}
}

func TestFullImages(t *testing.T) {
	t.Parallel()
	if impl.ImageMax != 1000000 {
		t.Errorf("ImageMax is %d", impl.ImageMax)
	}
	for name, state := range fullImages() {
		image := checkImage(t, name, state)
		if len(image) != impl.ImageMax {
			t.Fatalf("%s: %d bytes", name, len(joined(imagePieces(state))))
		}
		for i, n := range outerNumbers(&state) {
			old := *n
			*n = max(old, 1) << 7
			if long := joined(imagePieces(state)); len(long) != 1000001 || len(impl.PutState(state)) != 0 || impl.GetState(long).Ok {
				t.Errorf("%s, number %d: an image of %d bytes", name, i, len(long))
			}
			*n = old
		}
	}
}

// outerNumbers are the first and the last of the numbers of a state.
func outerNumbers(t *impl.State) []*int64 {
	first, last := &t.Status, &t.Trap
	if n := len(t.Frames); n > 0 {
		last = &t.Frames[n-1].Height
		if n := len(t.Frames[0].Labels); n > 0 {
			last = &t.Frames[0].Labels[n-1].Height
		}
	}
	return []*int64{first, last}
}

// TestImagesTooLong: one thing more than there is room for, or far more.
func TestImagesTooLong(t *testing.T) {
	rows := map[string]func(s *impl.State){
		"a value":     func(s *impl.State) { s.Stack = append(s.Stack, 1) },
		"a frame":     func(s *impl.State) { s.Frames = append(s.Frames, impl.Frame{}) },
		"many values": func(s *impl.State) { s.Stack = append(s.Stack, make([]uint64, 1<<20)...) },
		"many frames": func(s *impl.State) { s.Frames = append(s.Frames, make([]impl.Frame, 1<<20)...) },
		"a great list often": func(s *impl.State) {
			s.Frames = slices.Repeat([]impl.Frame{{Locals: make([]uint64, 1<<20), Labels: make([]impl.Label, 1<<20)}}, 1<<20)
		},
	}
	for name, state := range fullImages() {
		for more, add := range rows {
			long := state
			add(&long)
			if got := impl.PutState(long); len(got) != 0 {
				t.Errorf("%s and %s: an image of %d bytes", name, more, len(got))
			}
		}
		image := impl.PutState(state)
		for _, b := range [][]byte{append(image, 0), append(image, image...), make([]byte, 1<<24)} {
			if checkRead(t, name, b) != "it is too long" {
				t.Errorf("%s: %d bytes are read", name, len(b))
			}
		}
	}
}

// TestImagesCut: every beginning of an image, and every one with more behind it.
func TestImagesCut(t *testing.T) {
	for _, r := range imageRows() {
		image := impl.PutState(r.state)
		for n := range image {
			if checkRead(t, "cut", image[:n]) == "" {
				t.Errorf("% x: cut at %d", image, n)
			}
		}
		for more := range 256 {
			b := append(bytes.Clone(image), byte(more))
			if checkRead(t, "more", b) == "" || checkRead(t, "more", append(b, image...)) == "" {
				t.Errorf("% x: %02x behind it", image, more)
			}
		}
	}
	for _, b := range [][]byte{nil, {}, make([]byte, 1), make([]byte, 7)} {
		if got := impl.GetState(b); !same(got, impl.StateRes{}) {
			t.Errorf("% x: %+v", b, got)
		}
	}
}

// TestImagesChanged: every byte of an image is changed to every other one.
func TestImagesChanged(t *testing.T) {
	seen := map[string]int{}
	for _, r := range imageRows() {
		image := impl.PutState(r.state)
		for at, old := range image {
			for c := range 256 {
				if image[at] = byte(c); byte(c) != old {
					seen[checkRead(t, "changed", image)]++
				}
			}
			image[at] = old
		}
	}
	t.Logf("seen: %v", seen)
	for _, cause := range []string{"", "it ends too early", "a number is too long", "a number is too great", "a number is longer than it must be", "a mark is neither 00 nor 01", "it has another head", "there are bytes behind it"} {
		if seen[cause] == 0 {
			t.Errorf("%q was not seen", cause)
		}
	}
}

// TestImageWritings: other writings of each number and each mark of an image.
func TestImageWritings(t *testing.T) {
	for _, r := range imageRows() {
		list := imagePieces(r.state)
		for i, p := range list {
			put := func(b ...byte) string {
				other := slices.Clone(list)
				other[i].bytes = b
				return checkRead(t, p.kind, joined(other))
			}
			longer := bytes.Clone(p.bytes)
			longer[len(longer)-1] |= 0x80
			for more := range 8 {
				if p.kind != "number" && p.kind != "count" {
					break
				}
				if b := append(append(bytes.Clone(longer), bytes.Repeat([]byte{0x80}, more)...), 0); put(b...) == "" {
					t.Errorf("% x: a %s is written as % x", joined(list), p.kind, b)
				}
			}
			for c := 2; c < 256 && p.kind == "mark"; c++ {
				if put(byte(c)) == "" {
					t.Errorf("% x: a mark is %02x", joined(list), c)
				}
			}
			for _, text := range []string{"ffffffff10", "ffffffff1f", "ffffffff7f", "808080808001", "8080808010", "ffffffffffffffffff01"} {
				if p.kind != "value" && put(unhex(text)...) == "" {
					t.Errorf("% x: a %s is %s", joined(list), p.kind, text)
				}
			}
		}
	}
}

// TestImageCounts: a list's number is another than that of what follows.
func TestImageCounts(t *testing.T) {
	for _, r := range imageRows() {
		list := imagePieces(r.state)
		for i, p := range list {
			if p.kind != "count" {
				continue
			}
			for _, n := range append(u32s(), 2, 3, 4, 5, 6, 1000, 200000, 1<<20) {
				other := slices.Clone(list)
				other[i].bytes = impl.PutU(uint64(n))
				if checkRead(t, "count", joined(other)) == "" && !bytes.Equal(other[i].bytes, p.bytes) && n > 8 {
					t.Errorf("% x: %d entries are read", joined(other), n)
				}
				// Nothing at all stands behind the number.
				if n > 0 && checkRead(t, "count", joined(other[:i+1])) == "" {
					t.Errorf("% x: %d entries are read", joined(other[:i+1]), n)
				}
			}
		}
	}
}

func TestImageHeads(t *testing.T) {
	image := impl.PutState(fitsState())
	for head := range 1 << 16 {
		image[0], image[1] = byte(head>>8), byte(head)
		if got := impl.GetState(image); got.Ok != (head == 0x5301) || !got.Ok && !same(got, impl.StateRes{}) {
			t.Fatalf("%04x: %+v", head, got)
		}
	}
	for _, b := range []string{"S", "\x01", "\x01S\x00\x00\x00\x00", "S\x00\x00\x00\x00\x00", "\x00\x00\x00\x00", "S\x01S\x01\x00\x00\x00\x00", " S\x01\x00\x00\x00\x00"} {
		if checkRead(t, "head", []byte(b)) == "" {
			t.Errorf("%q is read", b)
		}
	}
}

// TestShortImages: all that may follow a head, of these bytes.
func TestShortImages(t *testing.T) {
	t.Parallel()
	read := 0
	var each func(b []byte, left int)
	each = func(b []byte, left int) {
		if checkRead(t, "short", b) == "" {
			read++
		}
		for _, c := range []byte{0, 1, 2, 0x0f, 0x7f, 0x80, 0xff} {
			if left > 0 {
				each(append(b, c), left-1)
			}
		}
	}
	each([]byte("S\x01"), 7)
	if read < 100 {
		t.Errorf("%d of them are read", read)
	}
}

func TestImagesAreNewMemory(t *testing.T) {
	state := fitsState()
	state.Frames[1].Labels = []impl.Label{{Pc: 1}, {Loop: true}}
	image, again := impl.PutState(state), impl.PutState(state)
	first, second := impl.GetState(image), impl.GetState(image)
	checkApart(t, state, image, again, first, second)
	// What stands in one list twice stands twice in the answer too.
	values, labels := ends(1, 2, 3), []impl.Label{{Pc: 1}}
	shared := impl.State{Stack: values, Frames: []impl.Frame{{Locals: values, Labels: labels}, {Locals: values[:2], Labels: labels}}}
	checkApart(t, impl.GetState(checkImage(t, "shared", shared)))
	clear(image)
	clear(again)
	if !same(first.State, state) || !same(second.State, state) {
		t.Errorf("a state hangs on its image")
	}
	image = impl.PutState(state)
	aside := bytes.Clone(image)
	clear(state.Stack)
	clear(state.Frames[0].Locals)
	clear(state.Frames)
	if !bytes.Equal(image, aside) {
		t.Errorf("an image hangs on its state")
	}
}

// TestImageCapacity: room behind what is handed in is left as it is.
func TestImageCapacity(t *testing.T) {
	image := impl.PutState(fitsState())
	room := append(bytes.Clone(image), 1, 2, 3, 4, 5, 6, 7, 8)
	for n := range len(image) + 1 {
		aside := bytes.Clone(room)
		checkRead(t, "with room", room[:n])
		if !bytes.Equal(room, aside) {
			t.Fatalf("%d bytes: something was written behind them", n)
		}
	}
	stack := ends(1, 2, 3, 4)
	checkImage(t, "with room", impl.State{Stack: stack[:2], Frames: []impl.Frame{{Locals: stack[:0]}, {Locals: stack[:1]}}})
	if !slices.Equal(stack, ends(1, 2, 3, 4)) {
		t.Errorf("something was written behind a list: %v", stack)
	}
}
