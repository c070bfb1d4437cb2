package tests

import (
	"bytes"
	"encoding/hex"
	"math"
	"reflect"
	"slices"
	"strings"
	"testing"

	"loop.example/s00119/impl"
)

// unhex reads digits; what stands behind a semicolon up to the line's end says
// what they are.
func unhex(text string) []byte {
	var digits strings.Builder
	for line := range strings.Lines(text) {
		line, _, _ = strings.Cut(line, ";")
		digits.WriteString(strings.Join(strings.Fields(line), ""))
	}
	b, err := hex.DecodeString(digits.String())
	if err != nil {
		panic(err)
	}
	return b
}

const headBytes = "\x00asm\x01\x00\x00\x00"

// fullBytes is fullModule, written by hand.
const fullBytes = `
	00 61 73 6d 01 00 00 00
	00 04 01 63 01 02                ; custom
	01 0c 02 60 00 00                ; types
	      60 04 7f 7e 7d 7c 01 7f
	00 04 01 63 01 02
	02 23 04 04 68 6f 73 74          ; imports
	         03 6f 75 74 00 01
	      01 61 01 74 01 70 01 01 02
	      01 61 01 6d 02 00 03
	      01 61 01 67 03 7c 01
	00 04 01 63 01 02
	03 03 02 00 01                   ; functions
	00 04 01 63 01 02
	04 05 01 70 01 04 05             ; tables
	00 04 01 63 01 02
	05 03 01 00 06                   ; memories
	00 04 01 63 01 02
	06 10 02 7f 01 41 07 0b          ; globals
	         7e 00 42 80 80 80 80 80 20 0b
	00 04 01 63 01 02
	07 11 04 01 66 00 01             ; exports
	         01 74 01 00
	         01 6d 02 00
	         01 67 03 00
	00 04 01 63 01 02
	08 01 02                         ; start
	00 04 01 63 01 02
	09 08 01 00 41 00 0b 02 01 02    ; elements
	00 04 01 63 01 02
	0a 10 02 03 00 01 0b             ; codes
	         0a 02 02 7f 01 7c 04 40 05 0b 0b
	00 04 01 63 01 02
	0b 09 01 00 41 08 0b 03 61 62 63 ; data
	00 04 01 63 01 02`

func checkEncode(t *testing.T, m impl.Module, want []byte) {
	t.Helper()
	got := impl.Encode(m)
	if !bytes.Equal(got, want) {
		t.Fatalf("%+v\nis written % x\nwant % x", m, got, want)
	}
	if d := impl.Decode(got); d.Err != 0 || d.At != 0 || !same(d.Module, m) {
		t.Fatalf("%+v\nread again: %+v", m, d)
	}
}

func TestEncodeByHand(t *testing.T) {
	m := fullModule()
	checkEncode(t, m, unhex(fullBytes))
	if !reflect.DeepEqual(m, fullModule()) {
		t.Errorf("the argument was written to")
	}
	checkEncode(t, impl.Module{}, []byte(headBytes))
	checkEncode(t, impl.Module{HasStart: true}, []byte(headBytes+"\x08\x01\x00"))
	checkEncode(t, impl.Module{HasStart: true, Start: math.MaxUint32}, []byte(headBytes+"\x08\x05\xff\xff\xff\xff\x0f"))
	noStart := unhex(fullBytes)
	noStart = bytes.Replace(noStart, []byte{0x08, 0x01, 0x02, 0x00, 0x04, 0x01, 0x63, 0x01, 0x02}, nil, 1)
	m.HasStart, m.Start = false, 0
	m.Customs = slices.DeleteFunc(m.Customs, func(c impl.Custom) bool { return c.After == 8 })
	checkEncode(t, m, noStart)
}

func TestCustomsStandWhereTheyBelong(t *testing.T) {
	custom := func(after int64, name string, b string) impl.Custom {
		return impl.Custom{After: after, Name: name, Bytes: []byte(b)}
	}
	m := impl.Module{Customs: []impl.Custom{custom(0, "", ""), custom(0, "b", "2"), custom(0, "a", "\xff\x00")}}
	checkEncode(t, m, []byte(headBytes+"\x00\x01\x00"+"\x00\x03\x01b2"+"\x00\x04\x01a\xff\x00"))
	m.Mems = []impl.Limits{{}}
	m.Customs = append(m.Customs, custom(5, "b", ""), custom(5, "a", ""))
	checkEncode(t, m, []byte(headBytes+"\x00\x01\x00"+"\x00\x03\x01b2"+"\x00\x04\x01a\xff\x00"+"\x05\x03\x01\x00\x00"+"\x00\x02\x01b"+"\x00\x02\x01a"))
	m.Datas = []impl.Data{{Offset: insList(0x0b)}}
	m.Customs = append(m.Customs[3:], custom(11, "z", "z"))
	checkEncode(t, m, []byte(headBytes+"\x05\x03\x01\x00\x00"+"\x00\x02\x01b"+"\x00\x02\x01a"+"\x0b\x04\x01\x00\x0b\x00"+"\x00\x03\x01zz"))
}

func TestEveryChoiceOfSections(t *testing.T) {
	for bits := int64(0); bits < 1<<12; bits += 2 {
		if bits>>3&1 != bits>>10&1 {
			continue
		}
		m := sectionModule(bits)
		checkEncode(t, m, shortest().module(m))
		for after := range int64(12) {
			if after == 0 || bits>>after&1 == 1 {
				m.Customs = append(m.Customs, impl.Custom{After: after, Name: "x", Bytes: []byte{byte(after)}})
			}
		}
		checkEncode(t, m, shortest().module(m))
	}
}

func TestEncodeOfDecodeAtRandom(t *testing.T) {
	k := newMaker(5)
	for range 4000 {
		m := k.module()
		checkEncode(t, m, shortest().module(m))
	}
}

func TestLongerNumbersAreRead(t *testing.T) {
	k := newMaker(6)
	most := layout{longer: func() int { return 9 }}
	hollow := layout{longer: func() int { return 0 }, hollow: true}
	loose := layout{longer: func() int { return max(0, k.Intn(8)-3) }, hollow: true}
	for i := range 3000 {
		m := k.module()
		if i == 0 {
			m = fullModule()
		}
		for _, l := range []layout{most, hollow, loose} {
			b := l.module(m)
			d := impl.Decode(b)
			if d.Err != 0 || d.At != 0 || !same(d.Module, m) {
				t.Fatalf("% x\nof %+v\nis read: %+v", b, m, d)
			}
			if got := impl.Encode(d.Module); !bytes.Equal(got, shortest().module(m)) {
				t.Fatalf("% x\nwritten again: % x", b, got)
			}
		}
	}
}

func TestNumbersOfEveryFieldAreWritten(t *testing.T) {
	for name, set := range u32Fields() {
		for _, n := range append(u32s(), 1<<7, 1<<14-1, 1<<14, 1<<21-1, 1<<21, 1<<28-1, 1<<28) {
			m := fullModule()
			set(&m, n)
			if got := impl.Encode(m); !bytes.Equal(got, shortest().module(m)) || !same(impl.Decode(got).Module, m) {
				t.Errorf("%s: %d is written % x", name, n, got)
			}
		}
		for _, n := range noU32s() {
			m := fullModule()
			set(&m, n)
			if got := impl.Encode(m); len(got) != 0 {
				t.Errorf("%s: %d is written % x", name, n, got)
			}
		}
	}
}

// notWellFormed has modules with one thing each that is not as it should be.
func notWellFormed() map[string]impl.Module {
	end := insList(0x0b)
	return map[string]impl.Module{
		"type":           {Types: []impl.FuncType{{Params: []int64{0x40}}}},
		"two results":    {Types: []impl.FuncType{{Results: []int64{0x7f, 0x7f}}}},
		"stray type":     {Imports: []impl.Import{{Kind: impl.KindMem, Type: 1}}},
		"import's kind":  {Imports: []impl.Import{{Kind: 4}}},
		"import's name":  {Imports: []impl.Import{{Name: "\xff"}}},
		"function alone": {Funcs: []int64{0}},
		"code alone":     {Codes: []impl.Code{{Body: end}}},
		"max alone":      {Tables: []impl.Limits{{Max: 1}}},
		"limit":          {Mems: []impl.Limits{{Min: -1}}},
		"global's type":  {Globals: []impl.Global{{Init: end}}},
		"open init":      {Globals: []impl.Global{{Type: impl.GlobalType{Type: 0x7f}}}},
		"export's name":  {Exports: []impl.Export{{Name: "a\xc3"}}},
		"export's kind":  {Exports: []impl.Export{{Kind: -1}}},
		"stray start":    {Start: 1},
		"start":          {HasStart: true, Start: 1 << 32},
		"open offset":    {Elems: []impl.Elem{{Offset: insList(0x02, 0x0b)}}},
		"open data":      {Datas: []impl.Data{{Offset: insList(0x0b, 0x0b)}}},
		"else":           {Funcs: []int64{0}, Codes: []impl.Code{{Body: insList(0x05, 0x0b)}}},
		"opcode":         {Funcs: []int64{0}, Codes: []impl.Code{{Body: insList(0x06, 0x0b)}}},
		"upper half":     {Funcs: []int64{0}, Codes: []impl.Code{{Body: []impl.Ins{{Op: 0x43, V: 1 << 32}, {Op: 0x0b}}}}},
		"stray field":    {Funcs: []int64{0}, Codes: []impl.Code{{Body: []impl.Ins{{Op: 0x0b, V: 1}}}}},
		"groups": {Funcs: []int64{0}, Codes: []impl.Code{{Body: end, Locals: []impl.Group{
			{N: math.MaxUint32, Type: 0x7f}, {N: 1, Type: 0x7f}}}}},
		"custom's name":  {Customs: []impl.Custom{{Name: "\x80"}}},
		"custom's place": {Customs: []impl.Custom{{After: 1}}},
		"customs' order": {Mems: []impl.Limits{{}}, Customs: []impl.Custom{{After: 5}, {After: 0}}},
	}
}

func TestWhatIsNotWellFormedIsNotWritten(t *testing.T) {
	for name, m := range notWellFormed() {
		if got := impl.Encode(m); len(got) != 0 {
			t.Errorf("%s: written % x", name, got)
		}
	}
}

// grown has modules of a size that can be set in every place that grows by
// single bytes; n counts what is put there.
func grown() map[string]func(n int) impl.Module {
	code := func(c impl.Code) impl.Module { return impl.Module{Funcs: []int64{0}, Codes: []impl.Code{c}} }
	return map[string]func(n int) impl.Module{
		"custom": func(n int) impl.Module {
			return impl.Module{Customs: []impl.Custom{{Name: "x", Bytes: make([]byte, n)}}}
		},
		"custom's name": func(n int) impl.Module {
			return impl.Module{Customs: []impl.Custom{{Name: strings.Repeat("n", n)}}}
		},
		"last custom": func(n int) impl.Module {
			return impl.Module{Mems: []impl.Limits{{}}, Customs: []impl.Custom{{After: 5, Bytes: make([]byte, n)}}}
		},
		"types": func(n int) impl.Module {
			return impl.Module{Types: []impl.FuncType{{Params: slices.Repeat([]int64{0x7c}, n)}}}
		},
		"import": func(n int) impl.Module { return impl.Module{Imports: []impl.Import{{Name: strings.Repeat("\x00", n)}}} },
		"export": func(n int) impl.Module { return impl.Module{Exports: []impl.Export{{Name: strings.Repeat("e", n)}}} },
		"global": func(n int) impl.Module {
			return impl.Module{Globals: []impl.Global{{Type: impl.GlobalType{Type: 0x7f}, Init: insList(append(slices.Repeat([]int64{0x1a}, n), 0x0b)...)}}}
		},
		"elements": func(n int) impl.Module {
			return impl.Module{Elems: []impl.Elem{{Offset: insList(0x0b), Funcs: make([]int64, n)}}}
		},
		"data": func(n int) impl.Module {
			return impl.Module{Datas: []impl.Data{{Offset: insList(0x0b), Bytes: slices.Repeat([]byte{0xff}, n)}}}
		},
		"body": func(n int) impl.Module { return code(impl.Code{Body: insList(append(make([]int64, n), 0x0b)...)}) },
		"labels": func(n int) impl.Module {
			return code(impl.Code{Body: []impl.Ins{{Op: 0x0e, L: make([]int64, n)}, {Op: 0x0b}}})
		},
	}
}

func TestBytesMax(t *testing.T) {
	for name, of := range grown() {
		n := 65400
		n += 65536 - len(shortest().module(of(n)))
		most := of(n)
		want := shortest().module(most)
		if got := impl.Encode(most); len(want) != 65536 || !bytes.Equal(got, want) {
			t.Errorf("%s: BytesMax bytes: %d are written, want %d", name, len(got), len(want))
		}
		if d := impl.Decode(want); d.Err != 0 || d.At != 0 || !same(d.Module, most) {
			t.Errorf("%s: BytesMax bytes: fault %d at %d", name, d.Err, d.At)
		}
		if got := impl.Encode(of(n + 1)); len(got) != 0 {
			t.Errorf("%s: one more than BytesMax: %d are written", name, len(got))
		}
		if got := impl.Encode(of(200000)); len(got) != 0 {
			t.Errorf("%s: far more than BytesMax: %d are written", name, len(got))
		}
		if d := impl.Decode(shortest().module(of(n + 1))); !same(d, impl.DecRes{Err: impl.BinLong}) {
			t.Errorf("%s: one more than BytesMax: fault %d at %d", name, d.Err, d.At)
		}
	}
	for _, size := range []int{65537, 65538, 100000, 1 << 20} {
		for _, b := range [][]byte{make([]byte, size), append([]byte(headBytes), make([]byte, size-8)...)} {
			if d := impl.Decode(b); !same(d, impl.DecRes{Err: impl.BinLong}) {
				t.Errorf("%d bytes: fault %d at %d", size, d.Err, d.At)
			}
		}
	}
	if d := decodeVerdict(make([]byte, 65536)); d != (verdict{impl.BinMagic, 2}) {
		t.Errorf("BytesMax zeros: %+v", d)
	}
}

func TestWhatIsReadIsNewMemory(t *testing.T) {
	b := unhex(fullBytes)
	first := impl.Decode(b)
	if !bytes.Equal(b, unhex(fullBytes)) {
		t.Fatalf("the argument was written to")
	}
	clear(b)
	if !same(first.Module, fullModule()) {
		t.Fatalf("the module hangs on the bytes it was read from")
	}
	m := first.Module
	written := impl.Encode(m)
	m.Datas[0].Bytes[0], m.Customs[0].Bytes[0], m.Types[1].Params[0] = 0, 0, 0
	if !bytes.Equal(written, unhex(fullBytes)) {
		t.Errorf("the bytes hang on the module")
	}
	m = impl.Decode(written).Module
	for i := range m.Customs {
		m.Customs[i].Bytes = append(m.Customs[i].Bytes, 0xee)
	}
	m.Types[0].Params = append(m.Types[0].Params, 0x7f)
	m.Codes[0].Body = append(m.Codes[0].Body, ins(0x00))
	m.Elems[0].Funcs = append(m.Elems[0].Funcs, 77)
	again := impl.Decode(written).Module
	if !bytes.Equal(written, unhex(fullBytes)) || !same(again.Types[1], m.Types[1]) || !same(again.Codes[1], m.Codes[1]) || !same(again.Datas, m.Datas) {
		t.Errorf("lists of one answer share memory")
	}
	x := impl.Ins{Op: 0x0e, L: []int64{1, 2, 3}, A: 4}
	line := impl.EncodeIns(x)
	y := impl.DecodeIns(line, 0).Ins
	clear(line)
	x.L[0] = 9
	if !slices.Equal(y.L, []int64{1, 2, 3}) {
		t.Errorf("the instruction hangs on what it was read from")
	}
}
