package tests

import (
	"bytes"
	"encoding/binary"
	"math"
	"reflect"
	"slices"
	"testing"

	"loop.example/s00119/impl"
)

// piece is what an image has of one thing: its head, a number, how many of a
// list there are, a value, or a mark.
type piece struct {
	kind  string
	bytes []byte
	none  bool // a number that cannot be written
}

// piecesOf goes by the order in which the fields are declared, which is that
// of an image; it knows nothing of what they mean.
func piecesOf(v reflect.Value) []piece {
	var out []piece
	switch v.Kind() {
	case reflect.Int64:
		n := v.Int()
		return []piece{{"number", binary.AppendUvarint(nil, uint64(n)), n < 0 || n > math.MaxUint32}}
	case reflect.Uint64:
		return []piece{{"value", binary.LittleEndian.AppendUint64(nil, v.Uint()), false}}
	case reflect.Bool:
		mark := map[bool]byte{false: 0, true: 1}[v.Bool()]
		return []piece{{"mark", []byte{mark}, false}}
	case reflect.Slice:
		out = append(out, piece{"count", binary.AppendUvarint(nil, uint64(v.Len())), false})
		for i := range v.Len() {
			out = append(out, piecesOf(v.Index(i))...)
		}
	case reflect.Struct:
		for i := range v.NumField() {
			out = append(out, piecesOf(v.Field(i))...)
		}
	}
	return out
}

func imagePieces(t impl.State) []piece {
	return append([]piece{{"head", []byte("\x53\x01"), false}}, piecesOf(reflect.ValueOf(t))...)
}

func joined(list []piece) []byte {
	var out []byte
	for _, p := range list {
		out = append(out, p.bytes...)
	}
	return out
}

// refPutState is PutState; it is empty where that should be.
func refPutState(t impl.State) []byte {
	list := imagePieces(t)
	b := joined(list)
	if len(b) > 1000000 || slices.ContainsFunc(list, func(p piece) bool { return p.none }) {
		return nil
	}
	return b
}

// refImage reads an image strictly; what is left when it is wrong is of no use.
type refImage struct {
	left  []byte
	wrong string
}

func (r *refImage) take(n int) []byte {
	if n > len(r.left) {
		r.wrong = "it ends too early"
		return make([]byte, n)
	}
	part := r.left[:n]
	r.left = r.left[n:]
	return part
}

func (r *refImage) number() int64 {
	var groups []byte
	for len(groups) == 0 || groups[len(groups)-1] >= 0x80 {
		if groups = append(groups, r.take(1)[0]); len(groups) > 5 {
			r.wrong = "a number is too long"
			return 0
		}
	}
	var n int64
	for _, g := range slices.Backward(groups) {
		n = n*128 + int64(g%128)
	}
	switch {
	case n > math.MaxUint32:
		r.wrong = "a number is too great"
	case len(groups) > 1 && groups[len(groups)-1] == 0:
		r.wrong = "a number is longer than it must be"
	}
	return n
}

func (r *refImage) fill(v reflect.Value) {
	switch v.Kind() {
	case reflect.Int64:
		v.SetInt(r.number())
	case reflect.Uint64:
		v.SetUint(binary.LittleEndian.Uint64(r.take(8)))
	case reflect.Bool:
		mark := r.take(1)[0]
		if v.SetBool(mark == 1); mark > 1 {
			r.wrong = "a mark is neither 00 nor 01"
		}
	case reflect.Slice:
		for range r.number() {
			if r.wrong != "" {
				return
			}
			v.Set(reflect.Append(v, reflect.Zero(v.Type().Elem())))
			r.fill(v.Index(v.Len() - 1))
		}
	case reflect.Struct:
		for i := range v.NumField() {
			r.fill(v.Field(i))
		}
	}
}

// refGetState is GetState, and why there is no state.
func refGetState(b []byte) (impl.StateRes, string) {
	var t impl.State
	r := &refImage{left: b}
	if head := r.take(2); r.wrong == "" && string(head) != "\x53\x01" {
		r.wrong = "it has another head"
	}
	if r.fill(reflect.ValueOf(&t).Elem()); r.wrong == "" && len(r.left) > 0 {
		r.wrong = "there are bytes behind it"
	}
	if len(b) > 1000000 {
		r.wrong = "it is too long"
	}
	if r.wrong != "" {
		return impl.StateRes{}, r.wrong
	}
	return impl.StateRes{Ok: true, State: t}, ""
}

// checkImage holds PutState, and GetState of what it gives, against the tests'
// own; it has the image.
func checkImage(t *testing.T, what any, state impl.State) []byte {
	t.Helper()
	aside := copyOf(state)
	got, want := impl.PutState(state), refPutState(state)
	if !bytes.Equal(got, want) {
		t.Fatalf("%v: % x, want % x", what, cutTo(got, 200), cutTo(want, 200))
	}
	if !same(state, aside) {
		t.Fatalf("%v: the state was written to", what)
	}
	if len(got) > 0 {
		if back := checkRead(t, what, got); back != "" {
			t.Fatalf("%v: not read: %s", what, back)
		}
		if back := impl.GetState(got).State; !same(back, state) {
			t.Fatalf("%v: read as %+v, not %+v", what, back, state)
		}
	}
	return got
}

// checkRead holds GetState, and PutState of what it gives, against the tests'
// own; it has the cause why there is no state.
func checkRead(t *testing.T, what any, b []byte) string {
	t.Helper()
	aside := bytes.Clone(b)
	want, wrong := refGetState(b)
	got := impl.GetState(b)
	if !same(got, want) {
		t.Fatalf("%v: % x: %v %+v, want %v %+v: %s", what, cutTo(b, 200), got.Ok, got.State, want.Ok, want.State, wrong)
	}
	if !bytes.Equal(b, aside) {
		t.Fatalf("%v: the bytes were written to", what)
	}
	if got.Ok && !bytes.Equal(impl.PutState(got.State), b) {
		t.Fatalf("%v: % x is not the image of what is read from it", what, cutTo(b, 200))
	}
	return wrong
}

func cutTo(b []byte, most int) []byte { return b[:min(len(b), most)] }

// written is a state that was put into an image and got from it again.
func written(t *testing.T, what any, state impl.State) impl.State {
	t.Helper()
	got := impl.GetState(checkImage(t, what, state))
	if !got.Ok {
		t.Fatalf("%v: a state of a run has no image", what)
	}
	return got.State
}
