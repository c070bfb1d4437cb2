package tests

import (
	"fmt"
	"math"
	"reflect"
	"slices"
	"strings"
	"testing"

	"loop.example/s00119/impl"
)

// checkInsText: x is printed as line, and line is read as x.
func checkInsText(t *testing.T, x impl.Ins, line string) {
	t.Helper()
	if got := string(impl.PrintIns(x)); got != line {
		t.Errorf("%+v is printed %q, want %q", x, got, line)
	}
	if got := impl.ParseIns([]byte(line)); !same(got, impl.InsText{Ok: true, Ins: x}) {
		t.Errorf("%q is read as %+v, want %+v", line, got, x)
	}
}

func checkNoIns(t *testing.T, lines ...string) {
	t.Helper()
	for _, line := range lines {
		if got := impl.ParseIns([]byte(line)); !same(got, impl.InsText{}) {
			t.Errorf("%q is read as %+v", line, got)
		}
	}
}

func checkNotPrinted(t *testing.T, x impl.Ins) {
	t.Helper()
	if got := impl.PrintIns(x); len(got) != 0 {
		t.Errorf("%+v is printed %q", x, got)
	}
}

func TestInsLinesByHand(t *testing.T) {
	rows := []struct {
		x    impl.Ins
		line string
	}{
		{impl.Ins{Op: 0x00}, "unreachable"},
		{impl.Ins{Op: 0x02, A: 0x40}, "block"},
		{impl.Ins{Op: 0x03, A: 0x7f}, "loop i32"},
		{impl.Ins{Op: 0x04, A: 0x7e}, "if i64"},
		{impl.Ins{Op: 0x02, A: 0x7d}, "block f32"},
		{impl.Ins{Op: 0x02, A: 0x7c}, "block f64"},
		{impl.Ins{Op: 0x05}, "else"},
		{impl.Ins{Op: 0x0b}, "end"},
		{impl.Ins{Op: 0x0c}, "br 0"},
		{impl.Ins{Op: 0x0d, A: math.MaxUint32}, "br_if 4294967295"},
		{impl.Ins{Op: 0x0e}, "br_table 0"},
		{impl.Ins{Op: 0x0e, L: []int64{1}, A: 2}, "br_table 1 2"},
		{impl.Ins{Op: 0x0e, L: []int64{4294967295, 0, 7}, A: 10}, "br_table 4294967295 0 7 10"},
		{impl.Ins{Op: 0x10, A: 12}, "call 12"},
		{impl.Ins{Op: 0x11, A: 3}, "call_indirect 3"},
		{impl.Ins{Op: 0x22, A: 1}, "local.tee 1"},
		{impl.Ins{Op: 0x24, A: 1}, "global.set 1"},
		{impl.Ins{Op: 0x28, A: 2}, "i32.load 2 0"},
		{impl.Ins{Op: 0x3e, B: 2}, "i64.store32 0 2"},
		{impl.Ins{Op: 0x3f}, "memory.size"},
		{impl.Ins{Op: 0x40}, "memory.grow"},
		{impl.Ins{Op: 0x41}, "i32.const 0"},
		{impl.Ins{Op: 0x41, V: 0x7fffffff}, "i32.const 2147483647"},
		{impl.Ins{Op: 0x41, V: 0x80000000}, "i32.const -2147483648"},
		{impl.Ins{Op: 0x41, V: 0xffffffff}, "i32.const -1"},
		{impl.Ins{Op: 0x42}, "i64.const 0"},
		{impl.Ins{Op: 0x42, V: 0xffffffff}, "i64.const 4294967295"},
		{impl.Ins{Op: 0x42, V: 1<<63 - 1}, "i64.const 9223372036854775807"},
		{impl.Ins{Op: 0x42, V: 1 << 63}, "i64.const -9223372036854775808"},
		{impl.Ins{Op: 0x42, V: math.MaxUint64}, "i64.const -1"},
		{impl.Ins{Op: 0x43}, "f32.const 0x00000000"},
		{impl.Ins{Op: 0x43, V: 0xffffffff}, "f32.const 0xffffffff"},
		{impl.Ins{Op: 0x43, V: 0x0123abcd}, "f32.const 0x0123abcd"},
		{impl.Ins{Op: 0x44}, "f64.const 0x0000000000000000"},
		{impl.Ins{Op: 0x44, V: math.MaxUint64}, "f64.const 0xffffffffffffffff"},
		{impl.Ins{Op: 0x44, V: 0x0123456789abcdef}, "f64.const 0x0123456789abcdef"},
		{impl.Ins{Op: 0x45}, "i32.eqz"},
		{impl.Ins{Op: 0xbf}, "f64.reinterpret_i64"},
	}
	for _, r := range rows {
		checkInsText(t, r.x, r.line)
	}
}

// plainFields has the words that may follow a name of a form.
func plainFields() map[int64]string {
	return map[int64]string{0: "", 1: "", 2: " 3", 3: " 3", 4: " 3", 5: " 3 4", 6: "", 7: " -5", 8: " -5", 9: " 0x0000000a", 10: " 0x000000000000000a"}
}

// Every opcode has its line, and no other number of words or spaces.
func TestEveryOpcodesLine(t *testing.T) {
	for _, w := range allOps() {
		line := w.name + plainFields()[w.form]
		x := impl.Ins{Op: w.op}
		switch w.form {
		case 1:
			x.A = 0x40
		case 2, 3, 4:
			x.A = 3
		case 5:
			x.A, x.B = 3, 4
		case 7:
			x.V = 1<<32 - 5
		case 8:
			x.V = math.MaxUint64 - 4
		case 9, 10:
			x.V = 10
		}
		checkInsText(t, x, line)
		checkNoIns(t, line+" ", " "+line, line+"\n", line+"\t", "\t"+line, line+"\r", line+"\x00", strings.Replace(line, w.name, w.name+" ", 1),
			strings.ToUpper(w.name)+plainFields()[w.form], line+` ""`, line+" x", line+" -1", line+" i32 i32", `"`+line+`"`)
		if w.form != 0 && w.form != 1 && w.form != 6 {
			checkNoIns(t, w.name, strings.Replace(line, " ", "  ", 1), strings.Replace(line, " ", "\t", 1), strings.Replace(line, " ", "", 1), w.name+" i32")
		}
		if w.form != 3 {
			checkNoIns(t, line+" 0", line+" 3 4")
		}
		if w.form != 1 {
			checkNoIns(t, line+" i32")
		}
	}
}

func TestBlockTypesInWords(t *testing.T) {
	for _, w := range allOps() {
		if w.form != 1 {
			continue
		}
		for word, is := range typeWords() {
			checkInsText(t, impl.Ins{Op: w.op, A: is}, w.name+" "+word)
			checkNoIns(t, w.name+" "+strings.ToUpper(word), w.name+"  "+word, w.name+" "+word+" ", w.name+" "+word+"0")
		}
		for _, word := range []string{"none", "None", "0", "64", "127", "->", "i33", "i3", "f16", "v128", "", `"i32"`, "func", "i32 ->"} {
			checkNoIns(t, w.name+" "+word)
		}
		for _, n := range noTypes() {
			checkNotPrinted(t, impl.Ins{Op: w.op, A: n})
		}
	}
}

// badU32s has words that are no u32s as they are printed.
func badU32s() []string {
	return []string{
		"", " ", "00", "01", "007", "0000000000", "00000000000", "04294967295", "-0", "-1", "-00", "+0", "+1", "+4294967295", "4294967296", "4294967297", "4294967300", "5000000000", "9999999999",
		"10000000000", "42949672950", "99999999999", "18446744073709551615", "18446744073709551616", "18446744073709551617", strings.Repeat("9", 50), "-4294967295", "-2147483648", "0x0", "0x1", "1_0", "1.0", "1e1", "1,", "a", "i32", "-", "+", "--1",
		"1-", "0 ", " 0", "1\t", "\t1", "1\r", "1\x00", "\u0661", "\uff11", `"1"`, "1\x80", "²",
	}
}

func goodU32s() []string {
	return []string{"0", "1", "9", "10", "11", "99", "100", "1000000000", "2147483647", "2147483648", "4294967294", "4294967295"}
}

func TestNumbersOfInstructions(t *testing.T) {
	for _, w := range allOps() {
		var places []string
		var of func(n int64) []impl.Ins
		switch w.form {
		case 2, 4:
			places = []string{"%s"}
			of = func(n int64) []impl.Ins { return []impl.Ins{{Op: w.op, A: n}} }
		case 3:
			places = []string{"%s", "%s 5", "7 %s 5", "7 %s 8 5", "7 8 %s"}
			of = func(n int64) []impl.Ins {
				return []impl.Ins{{Op: w.op, A: n}, {Op: w.op, L: []int64{n}, A: 5}, {Op: w.op, L: []int64{7, n}, A: 5}, {Op: w.op, L: []int64{7, n, 8}, A: 5}, {Op: w.op, L: []int64{7, 8}, A: n}}
			}
		case 5:
			places = []string{"%s 5", "5 %s"}
			of = func(n int64) []impl.Ins { return []impl.Ins{{Op: w.op, A: n, B: 5}, {Op: w.op, A: 5, B: n}} }
		}
		for i, place := range places {
			for _, n := range u32s() {
				checkInsText(t, of(n)[i], w.name+" "+fmt.Sprintf(place, fmt.Sprint(n)))
			}
			for _, word := range goodU32s() {
				checkInsText(t, of(numberOf(word))[i], w.name+" "+fmt.Sprintf(place, word))
			}
			for _, word := range badU32s() {
				checkNoIns(t, w.name+" "+fmt.Sprintf(place, word))
			}
			for _, n := range noU32s() {
				checkNotPrinted(t, of(n)[i])
				checkNoIns(t, w.name+" "+fmt.Sprintf(place, fmt.Sprint(n)))
			}
		}
	}
}

func TestConstantsInWords(t *testing.T) {
	bad := slices.DeleteFunc(badU32s(), func(word string) bool { return !strings.HasPrefix(word, "-") && !strings.HasPrefix(word, "+") })
	bad = slices.DeleteFunc(bad, func(word string) bool {
		return word == "-1" || strings.HasPrefix(word, "-4") || strings.HasPrefix(word, "-2")
	})
	for name, words := range map[string][]string{
		"i32.const": {"2147483648", "2147483649", "4294967295", "4294967296", "-2147483649", "-4294967296", "9999999999", "-9999999999", "10000000000", "-10000000000", "02147483647", "-02147483648", "-01", "00", "01", "0x1", "0x00000001"},
		"i64.const": {"9223372036854775808", "9223372036854775809", "9999999999999999999", "10000000000000000000", "18446744073709551615", "18446744073709551616", "-9223372036854775809", "-9999999999999999999", "-10000000000000000000", "-18446744073709551616",
			"01", "-01", "00", "-00", "0000000000000000001", "09223372036854775807", "-09223372036854775808", "0x1", "+9223372036854775807"},
	} {
		for _, word := range slices.Concat(words, bad, []string{"", "-", "+", "- 1", "1 1", "a", "1.5", "1e3", "1_000", "\u0661", "-\uff11"}) {
			checkNoIns(t, name+" "+word)
		}
	}
	for _, v := range edgeWords() {
		low := v & math.MaxUint32
		checkInsText(t, impl.Ins{Op: 0x41, V: low}, fmt.Sprintf("i32.const %d", int32(v)))
		checkInsText(t, impl.Ins{Op: 0x42, V: v}, fmt.Sprintf("i64.const %d", int64(v)))
		checkInsText(t, impl.Ins{Op: 0x43, V: low}, fmt.Sprintf("f32.const 0x%08x", low))
		checkInsText(t, impl.Ins{Op: 0x44, V: v}, fmt.Sprintf("f64.const 0x%016x", v))
		if v > math.MaxUint32 {
			checkNotPrinted(t, impl.Ins{Op: 0x41, V: v})
			checkNotPrinted(t, impl.Ins{Op: 0x43, V: v})
		}
	}
	for digits := 1; digits <= 19; digits++ {
		n := numberOf(strings.Repeat("1", digits))
		checkInsText(t, impl.Ins{Op: 0x42, V: uint64(n)}, fmt.Sprintf("i64.const %d", n))
		checkInsText(t, impl.Ins{Op: 0x42, V: uint64(-n)}, fmt.Sprintf("i64.const %d", -n))
		if digits <= 10 {
			checkInsText(t, impl.Ins{Op: 0x41, V: uint64(uint32(n))}, fmt.Sprintf("i32.const %d", n))
		} else {
			checkNoIns(t, fmt.Sprintf("i32.const %d", n), fmt.Sprintf("i32.const %d", -n))
		}
	}
}

func TestFloatsInWords(t *testing.T) {
	for name, size := range map[string]int{"f32.const": 8, "f64.const": 16} {
		for digits := range 40 {
			for _, digit := range []string{"0", "1", "f"} {
				line := name + " 0x" + strings.Repeat(digit, digits)
				if got := impl.ParseIns([]byte(line)); got.Ok != (digits == size) {
					t.Errorf("%q: %+v", line, got)
				}
			}
		}
		zeros := strings.Repeat("0", size)
		for place := range size {
			for c := range 256 {
				word := []byte(zeros)
				word[place] = byte(c)
				is := c >= '0' && c <= '9' || c >= 'a' && c <= 'f'
				line := name + " 0x" + string(word)
				got := impl.ParseIns([]byte(line))
				if got.Ok != is || is && string(impl.PrintIns(got.Ins)) != line {
					t.Errorf("%q: %+v", line, got)
				}
			}
		}
		checkNoIns(t, name+" "+zeros, name+" 0X"+zeros, name+" x"+zeros, name+" 0"+zeros, name+" 00x"+zeros[1:], name+" -0x"+zeros, name+" +0x"+zeros, name+" 0x-"+zeros[1:], name+" 0x+"+zeros[1:], name+" 0x0x"+zeros[2:],
			name+" 0x_"+zeros[1:], name+" 0x "+zeros, name+" 0 x"+zeros, name+" 0", name+" 1", name+" 1.0", name+" nan", name+" inf", name+" 0x", name+" 0x1p0", name+" 0x"+zeros+" 0")
	}
}

func TestStrayFieldsAreNotPrinted(t *testing.T) {
	for _, w := range allOps() {
		for _, x := range strayFields(ins(w.op), usedFields()[w.form]) {
			checkNotPrinted(t, x)
		}
		x := ins(w.op)
		x.L = []int64{}
		if got := string(impl.PrintIns(x)); got != string(impl.PrintIns(ins(w.op))) || got == "" {
			t.Errorf("%s with an empty list is printed %q", w.name, got)
		}
	}
	for _, op := range noOps() {
		checkNotPrinted(t, impl.Ins{Op: op})
	}
}

func TestLinesThatAreNoInstructions(t *testing.T) {
	checkNoIns(t, "", " ", "\n", "\t", "0", "nop nop", "nop;", ";; nop", "(nop)", "nop\nend", "i32", "i32.", ".const", "i32.const", "i32 .const 1", "get_local 0", "memory", "memory 1", "memory.size 0", "memory.grow 0", "call_indirect", "call_indirect 0 0",
		"call_indirect 0 (type 0)", "br", "br_table", "br_table ", "select i32", "return 0", "else 0", "end 0", "custom 0 \"\" \"\"", "type ->", "func 0", "table 0", "global i32 var", "start 0", "elem", "code", "data \"\"", "import \"\" \"\" func 0", "export \"\" func 0",
		"\"nop\"", "nop\"", "\x00", "\xff", "Nop", "NOP", "no", "nopp", "i32.addd", "i64.extend8_s", "ref.null", "v128.const 0", "-1", "->")
	ref := newRefText()
	for c := range 256 {
		one := string([]byte{byte(c)})
		for _, line := range []string{one, "nop" + one, one + "nop", "n" + one + "p", "br" + one + "0"} {
			x, ok := ref.ins(line)
			if got := impl.ParseIns([]byte(line)); !same(got, impl.InsText{Ok: ok, Ins: x}) {
				t.Errorf("%q: %+v", line, got)
			}
		}
	}
}

func TestInsLinesAtRandom(t *testing.T) {
	k, ref := newMaker(80), newRefText()
	read := 0
	for range 30000 {
		w := pick(k, k.ops)
		x := k.ins(w)
		line := insLine(x, w)
		checkInsText(t, x, line)
		if t.Failed() {
			return
		}
		changed := k.changedLine(line)
		y, ok := ref.ins(changed)
		if got := impl.ParseIns([]byte(changed)); !same(got, impl.InsText{Ok: ok, Ins: y}) {
			t.Fatalf("%q is read as %+v, want %v %+v", changed, got, ok, y)
		}
		if ok {
			read++
			if got := string(impl.PrintIns(y)); got != changed {
				t.Fatalf("%q is printed %q", changed, got)
			}
		}
	}
	if read < 500 {
		t.Errorf("only %d of the changed lines are read", read)
	}
}

func TestInsTextIsNewMemory(t *testing.T) {
	x := impl.Ins{Op: 0x0e, L: []int64{1, 2, 3}, A: 4}
	line := impl.PrintIns(x)
	text := []byte("br_table 1 2 3 4")
	got := impl.ParseIns(text)
	if string(text) != "br_table 1 2 3 4" || !reflect.DeepEqual(x, impl.Ins{Op: 0x0e, L: []int64{1, 2, 3}, A: 4}) {
		t.Errorf("an argument was written to")
	}
	clear(text)
	x.L[0] = 9
	if string(line) != "br_table 1 2 3 4" || !slices.Equal(got.Ins.L, []int64{1, 2, 3}) {
		t.Errorf("an answer hangs on its argument")
	}
	clear(line)
	if string(impl.PrintIns(got.Ins)) != "br_table 1 2 3 4" {
		t.Errorf("an answer hangs on the one before")
	}
}

func TestLongInsLines(t *testing.T) {
	x := impl.Ins{Op: 0x0e, L: slices.Repeat([]int64{math.MaxUint32}, 100000), A: 1}
	line := impl.PrintIns(x)
	if got := impl.ParseIns(line); len(line) != 1100010 || !same(got, impl.InsText{Ok: true, Ins: x}) {
		t.Errorf("%d bytes, read: %v", len(line), got.Ok)
	}
	checkNoIns(t, "i32.const "+strings.Repeat("1", 100000), "nop"+strings.Repeat(" ", 100000), strings.Repeat("nop", 100000))
}
