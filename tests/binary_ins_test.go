package tests

import (
	"bytes"
	"math"
	"slices"
	"testing"

	"loop.example/s00119/impl"
)

// checkInsBytes: x is written as want, and read from it wherever it stands.
func checkInsBytes(t *testing.T, x impl.Ins, want []byte) {
	t.Helper()
	if got := impl.EncodeIns(x); !bytes.Equal(got, want) {
		t.Fatalf("%+v is written % x, want % x", x, got, want)
	}
	checkInsRead(t, x, want)
}

func checkInsRead(t *testing.T, x impl.Ins, b []byte) {
	t.Helper()
	size := int64(len(b))
	for _, before := range []string{"", "\x0b", "\x80\x80\x80", "\xff\x05"} {
		for _, behind := range []string{"", "\x00", "\x80", "\xff\xff\xff"} {
			text := slices.Concat([]byte(before), b, []byte(behind))
			kept := bytes.Clone(text)
			at := int64(len(before))
			if d := impl.DecodeIns(text, at); !same(d, impl.InsRes{Next: at + size, Ins: x}) {
				t.Fatalf("% x at %d: %+v, want %+v", text, at, d, x)
			}
			if !bytes.Equal(text, kept) {
				t.Fatalf("the argument was written to")
			}
		}
	}
	for n := range size {
		if d := impl.DecodeIns(b[:n], 0); !same(d, impl.InsRes{Err: impl.BinEnd, Next: n}) {
			t.Fatalf("% x, %d of it: %+v", b, n, d)
		}
	}
}

func TestInstructionsByHand(t *testing.T) {
	rows := []struct {
		x impl.Ins
		b string
	}{
		{impl.Ins{Op: 0x00}, "00"}, {impl.Ins{Op: 0x01}, "01"}, {impl.Ins{Op: 0x05}, "05"}, {impl.Ins{Op: 0x0b}, "0b"},
		{impl.Ins{Op: 0x0f}, "0f"}, {impl.Ins{Op: 0x1a}, "1a"}, {impl.Ins{Op: 0x1b}, "1b"}, {impl.Ins{Op: 0x45}, "45"}, {impl.Ins{Op: 0xbf}, "bf"},
		{impl.Ins{Op: 0x02, A: 0x40}, "02 40"}, {impl.Ins{Op: 0x03, A: 0x7f}, "03 7f"}, {impl.Ins{Op: 0x04, A: 0x7c}, "04 7c"},
		{impl.Ins{Op: 0x0c}, "0c 00"}, {impl.Ins{Op: 0x0d, A: 127}, "0d 7f"}, {impl.Ins{Op: 0x10, A: 128}, "10 80 01"},
		{impl.Ins{Op: 0x24, A: math.MaxUint32}, "24 ff ff ff ff 0f"},
		{impl.Ins{Op: 0x0e}, "0e 00 00"}, {impl.Ins{Op: 0x0e, A: 300}, "0e 00 ac 02"},
		{impl.Ins{Op: 0x0e, L: []int64{0, math.MaxUint32, 128}, A: 1}, "0e 03 00 ff ff ff ff 0f 80 01 01"},
		{impl.Ins{Op: 0x11}, "11 00 00"}, {impl.Ins{Op: 0x11, A: 1 << 31}, "11 80 80 80 80 08 00"},
		{impl.Ins{Op: 0x28}, "28 00 00"}, {impl.Ins{Op: 0x3e, A: 2, B: 65536}, "3e 02 80 80 04"}, {impl.Ins{Op: 0x36, A: math.MaxUint32, B: math.MaxUint32}, "36 ff ff ff ff 0f ff ff ff ff 0f"},
		{impl.Ins{Op: 0x3f}, "3f 00"}, {impl.Ins{Op: 0x40}, "40 00"},
		{impl.Ins{Op: 0x41}, "41 00"}, {impl.Ins{Op: 0x41, V: 63}, "41 3f"}, {impl.Ins{Op: 0x41, V: 64}, "41 c0 00"}, {impl.Ins{Op: 0x41, V: 0xffffffc0}, "41 40"},
		{impl.Ins{Op: 0x41, V: 0xffffffbf}, "41 bf 7f"}, {impl.Ins{Op: 0x41, V: 0x7fffffff}, "41 ff ff ff ff 07"}, {impl.Ins{Op: 0x41, V: 0x80000000}, "41 80 80 80 80 78"},
		{impl.Ins{Op: 0x42, V: math.MaxUint64}, "42 7f"}, {impl.Ins{Op: 0x42, V: 0xffffffff}, "42 ff ff ff ff 0f"}, {impl.Ins{Op: 0x42, V: 1 << 63}, "42 80 80 80 80 80 80 80 80 80 7f"},
		{impl.Ins{Op: 0x42, V: 1<<63 - 1}, "42 ff ff ff ff ff ff ff ff ff 00"},
		{impl.Ins{Op: 0x43, V: 0x01020304}, "43 04 03 02 01"}, {impl.Ins{Op: 0x43, V: 0xffc00000}, "43 00 00 c0 ff"},
		{impl.Ins{Op: 0x44, V: 0x0102030405060708}, "44 08 07 06 05 04 03 02 01"}, {impl.Ins{Op: 0x44, V: 0xfff8000000000000}, "44 00 00 00 00 00 00 f8 ff"},
	}
	for _, r := range rows {
		checkInsBytes(t, r.x, unhex(r.b))
	}
}

func TestEveryInstruction(t *testing.T) {
	k := newMaker(7)
	loose := layout{longer: func() int { return k.Intn(10) }}
	for _, w := range k.ops {
		for range 60 {
			x := k.ins(w)
			checkInsBytes(t, x, shortest().ins(x))
			checkInsRead(t, x, loose.ins(x))
		}
		for _, y := range strayFields(ins(w.op), usedFields()[w.form]) {
			if got := impl.EncodeIns(y); len(got) != 0 {
				t.Errorf("%+v is written % x", y, got)
			}
		}
	}
}

func TestFieldsThatAreNotWritten(t *testing.T) {
	for _, w := range allOps() {
		x := ins(w.op)
		var bad []impl.Ins
		for _, n := range noU32s() {
			a, b, l := x, x, x
			a.A, b.B, l.L, l.A = n, n, []int64{0, n}, 0
			if w.form != 0 && w.form < 6 {
				bad = append(bad, a)
			}
			bad = append(bad, b, l)
		}
		if w.form == 1 {
			for _, n := range noTypes() {
				bad = append(bad, impl.Ins{Op: w.op, A: n})
			}
		}
		if w.form == 7 || w.form == 9 {
			bad = append(bad, impl.Ins{Op: w.op, V: 1 << 32}, impl.Ins{Op: w.op, V: math.MaxUint64})
		}
		for _, y := range bad {
			if got := impl.EncodeIns(y); len(got) != 0 {
				t.Errorf("%+v is written % x", y, got)
			}
		}
	}
	for _, op := range noOps() {
		if got := impl.EncodeIns(impl.Ins{Op: op}); len(got) != 0 {
			t.Errorf("opcode %x is written % x", op, got)
		}
	}
}

func TestOpcodesThatAreNotRead(t *testing.T) {
	known := map[int64]bool{}
	for _, w := range allOps() {
		known[w.op] = true
	}
	for op := range int64(256) {
		d := impl.DecodeIns([]byte{byte(op), 0x40, 0, 0, 0, 0, 0, 0, 0}, 0)
		if known[op] && d.Err == impl.BinOp || !known[op] && !same(d, impl.InsRes{Err: impl.BinOp, Next: 1}) {
			t.Errorf("opcode %x: %+v", op, d)
		}
		if d := impl.DecodeIns([]byte{0, 0, byte(op)}, 2); !known[op] && !same(d, impl.InsRes{Err: impl.BinOp, Next: 3}) {
			t.Errorf("opcode %x at the end: %+v", op, d)
		}
	}
}

func TestPlacesOutsideOfTheBytes(t *testing.T) {
	for _, b := range [][]byte{nil, {}, {0x01}, {0x01, 0x01, 0x01}, bytes.Repeat([]byte{1}, 70000)} {
		size := int64(len(b))
		for _, at := range []int64{-1, -2, -size - 1, math.MinInt64, math.MinInt32, size, size + 1, size + 2, 1 << 32, 1<<32 + 1, math.MaxInt64} {
			if d := impl.DecodeIns(b, at); !same(d, impl.InsRes{Err: impl.BinEnd, Next: size}) {
				t.Errorf("%d bytes at %d: %+v", size, at, d)
			}
		}
		for at := max(0, size-3); at < size; at++ {
			if d := impl.DecodeIns(b, at); !same(d, impl.InsRes{Next: at + 1, Ins: impl.Ins{Op: 1}}) {
				t.Errorf("%d bytes at %d: %+v", size, at, d)
			}
		}
	}
}

func TestFaultsOfInstructions(t *testing.T) {
	rows := []struct {
		b    string
		err  int64
		next int64
	}{
		{"02", impl.BinEnd, 1}, {"02 00", impl.BinForm, 2}, {"03 41", impl.BinForm, 2}, {"04 7b", impl.BinForm, 2}, {"04 80 00", impl.BinForm, 2}, {"02 70", impl.BinForm, 2},
		{"02 c0 7f", impl.BinForm, 2},
		{"11 00 01", impl.BinForm, 3}, {"11 00 80 00", impl.BinForm, 3}, {"11 00", impl.BinEnd, 2}, {"11 80", impl.BinEnd, 2}, {"3f 01", impl.BinForm, 2}, {"40 80 00", impl.BinForm, 2}, {"40", impl.BinEnd, 1},
		{"20 80 80 80 80 80", impl.BinLeb, 6}, {"20 80 80 80 80 80 00", impl.BinLeb, 6}, {"20 ff ff ff ff 10", impl.BinLeb, 6}, {"20 ff ff ff ff 1f 00", impl.BinLeb, 6}, {"20 80 80 80 80", impl.BinEnd, 5},
		{"0e 80 80 80 80 70", impl.BinLeb, 6}, {"0e 01 80 80 80 80 40 00", impl.BinLeb, 7}, {"0e 02 00 01", impl.BinEnd, 4}, {"0e ff ff ff ff 0f 00 00", impl.BinEnd, 8}, {"0e 00 80 80 80 80 20", impl.BinLeb, 7},
		{"28 80 80 80 80 10 00", impl.BinLeb, 6}, {"28 00 80 80 80 80 10", impl.BinLeb, 7}, {"28 00", impl.BinEnd, 2},
		{"41 80 80 80 80 08", impl.BinLeb, 6}, {"41 ff ff ff ff 6f", impl.BinLeb, 6}, {"41 80 80 80 80 f8 7f", impl.BinLeb, 6}, {"41 ff ff ff ff 77", impl.BinLeb, 6},
		{"42 80 80 80 80 80 80 80 80 80 01", impl.BinLeb, 11}, {"42 ff ff ff ff ff ff ff ff ff 7e", impl.BinLeb, 11}, {"42 80 80 80 80 80 80 80 80 80 80", impl.BinLeb, 11}, {"42 80 80 80 80 80 80 80 80 80", impl.BinEnd, 10},
		{"43 00 00 00", impl.BinEnd, 4}, {"44 00 00 00 00 00 00 00", impl.BinEnd, 8}, {"06", impl.BinOp, 1}, {"0a", impl.BinOp, 1}, {"12", impl.BinOp, 1}, {"1c", impl.BinOp, 1}, {"25", impl.BinOp, 1}, {"c0", impl.BinOp, 1}, {"ff ff", impl.BinOp, 1},
	}
	for _, r := range rows {
		for _, before := range []string{"", "0b", "80 80 80"} {
			b := append(unhex(before), unhex(r.b)...)
			at := int64(len(unhex(before)))
			want := impl.InsRes{Err: r.err, Next: at + r.next}
			if d := impl.DecodeIns(b, at); !same(d, want) {
				t.Errorf("% x at %d: %+v, want %+v", b, at, d, want)
			}
			for _, behind := range []string{"00", "7f", "80", "0b 0b", "ff ff ff ff ff ff ff ff ff ff ff ff"} {
				longer := append(bytes.Clone(b), unhex(behind)...)
				if d := impl.DecodeIns(longer, at); r.err != impl.BinEnd && !same(d, want) {
					t.Errorf("% x at %d: %+v, want %+v", longer, at, d, want)
				}
			}
		}
	}
}

// An instruction of DecodeIns stands in nothing that ends and has no bounds but
// the bytes, which may be more than those of a module.
func TestInstructionsLongerThanAModule(t *testing.T) {
	x := impl.Ins{Op: 0x0e, L: slices.Repeat([]int64{5}, 80000), A: 6}
	b := impl.EncodeIns(x)
	if len(b) != 80000+1+3+1 || !same(impl.DecodeIns(b, 0), impl.InsRes{Next: int64(len(b)), Ins: x}) {
		t.Errorf("a long instruction: %d bytes", len(b))
	}
	if d := impl.DecodeIns(b[:70000], 0); !same(d, impl.InsRes{Err: impl.BinEnd, Next: 70000}) {
		t.Errorf("a long instruction, cut: %d at %d", d.Err, d.Next)
	}
}
