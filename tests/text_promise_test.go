package tests

import (
	"fmt"
	"math"
	"reflect"
	"strings"
	"testing"

	"loop.example/s00119/impl"
)

func TestTextOfEveryChoiceOfSections(t *testing.T) {
	for bits := int64(0); bits < 1<<12; bits += 2 {
		if bits>>3&1 != bits>>10&1 {
			continue
		}
		m := sectionModule(bits)
		checkModuleText(t, m, wantText(m))
		for after := range int64(12) {
			if after == 0 || bits>>after&1 == 1 {
				m.Customs = append(m.Customs, impl.Custom{After: after, Name: "x", Bytes: []byte{byte(after)}})
			}
		}
		checkModuleText(t, m, wantText(m))
	}
}

func TestTextOfModulesAtRandom(t *testing.T) {
	k := newMaker(81)
	for range 3000 {
		m := k.module()
		checkModuleText(t, m, wantText(m))
		v := k.validModule()
		checkModuleText(t, v, wantText(v))
		if t.Failed() {
			return
		}
	}
}

// checkAnyText holds ParseText against the reader of the tests, and what it
// accepts against promise 9: it is well formed, and its own text is read as the
// same module.
func checkAnyText(t *testing.T, ref *refText, text string) impl.TextRes {
	t.Helper()
	got := impl.ParseText([]byte(text))
	if want := ref.parse(text); !same(got, want) {
		t.Fatalf("%q: line %d, want %d\n%+v\nwant %+v", text, got.Line, want.Line, got.Module, want.Module)
	}
	if got.Line != 0 {
		return got
	}
	if !impl.WellFormed(got.Module) {
		t.Fatalf("%q: read, but not well formed: %+v", text, got.Module)
	}
	again := impl.PrintText(got.Module)
	if len(again) != len(text) || !same(impl.ParseText(again), got) {
		t.Fatalf("%q is printed again %q", text, again)
	}
	return got
}

func TestChangedModuleTexts(t *testing.T) {
	k, ref := newMaker(82), newRefText()
	read, refused := 0, 0
	for i := range 600 {
		good := wantText(k.module())
		if i%20 == 0 {
			good = fullText
		}
		for range 15 {
			once := k.changedText(good)
			for _, text := range []string{once, k.changedText(once)} {
				if checkAnyText(t, ref, text).Line == 0 {
					read++
				} else {
					refused++
				}
			}
		}
	}
	if read < 1000 || refused < 1000 {
		t.Errorf("%d texts are read, %d refused", read, refused)
	}
}

func TestEveryByteOfTheFullText(t *testing.T) {
	ref := newRefText()
	for place := range len(fullText) {
		for _, c := range []byte("\x00\t\n\r \"\\-+01289afgiAFzx.\x7f\x80\xff") {
			checkAnyText(t, ref, fullText[:place]+string([]byte{c})+fullText[place+1:])
		}
		checkAnyText(t, ref, fullText[:place])
		checkAnyText(t, ref, fullText[:place]+fullText[place+1:])
		checkAnyText(t, ref, fullText[:place]+" "+fullText[place:])
		checkAnyText(t, ref, fullText[:place]+"\n"+fullText[place:])
	}
}

// Every text of up to four lines out of some, so that each line stands behind
// each other one, in and outside of lists.
func TestEveryShortText(t *testing.T) {
	ref := newRefText()
	lines := []string{"", "custom 0 \"\" \"\"", "custom 3 \"\" \"\"", "custom 10 \"\" \"\"", "type ->", "func 0", "global i32 var", "start 0", "code", "data \"\"", "nop", "block", "if", "else", "end"}
	count := 0
	var from func(text string, left int)
	from = func(text string, left int) {
		if checkAnyText(t, ref, text).Line == 0 {
			count++
		}
		for _, line := range lines {
			if left > 0 {
				from(text+line+"\n", left-1)
			}
		}
	}
	from("", 4)
	if count < 50 {
		t.Errorf("only %d texts are read", count)
	}
}

func TestLongListsInText(t *testing.T) {
	const depth = 20000
	body := insList()
	for i := range depth {
		body = append(body, ins([]int64{0x02, 0x03, 0x04}[i%3]))
	}
	for range depth + 1 {
		body = append(body, ins(0x0b))
	}
	m := oneCode(nil, body...)
	text := string(impl.PrintText(m))
	if got := impl.ParseText([]byte(text)); len(text) == 0 || !same(got, impl.TextRes{Module: m}) {
		t.Errorf("%d bytes, line %d", len(text), got.Line)
	}
	checkWrongLine(t, strings.TrimSuffix(text, "end\n"), 2*depth+3)
	checkWrongLine(t, text+"end\n", 2*depth+4)
	checkWrongLine(t, text+"nop\n", 2*depth+4)
}

// sized has modules whose text has exactly so many bytes, grown in each place
// that grows by single bytes.
func sized() map[string]func(n int) impl.Module {
	end := ins(0x0b)
	fill := func(n int, rest string) string { return strings.Repeat("x", n-len(rest)) }
	return map[string]func(n int) impl.Module{
		"custom": func(n int) impl.Module {
			return impl.Module{Customs: []impl.Custom{{Bytes: []byte(fill(n, "custom 0 \"\" \"\"\n"))}}}
		},
		"custom's name": func(n int) impl.Module {
			return impl.Module{Customs: []impl.Custom{{Name: fill(n, "custom 0 \"\" \"\"\n")}}}
		},
		"last custom": func(n int) impl.Module {
			return impl.Module{Mems: []impl.Limits{{}}, Customs: []impl.Custom{{After: 5, Bytes: []byte(fill(n, "memory 0\ncustom 5 \"\" \"\"\n"))}}}
		},
		"import": func(n int) impl.Module {
			return impl.Module{Imports: []impl.Import{{Name: fill(n, "import \"\" \"\" func 0\n")}}}
		},
		"export": func(n int) impl.Module {
			return impl.Module{Exports: []impl.Export{{Name: fill(n, "export \"\" func 0\n")}}}
		},
		"data": func(n int) impl.Module {
			return impl.Module{Datas: []impl.Data{{Offset: []impl.Ins{end}, Bytes: []byte(fill(n, "data \"\"\nend\n"))}}}
		},
		"labels": func(n int) impl.Module {
			rest := n - len("func 0\ncode\nbr_table 1\nend\n")
			return oneCode(nil, impl.Ins{Op: 0x0e, L: make([]int64, rest/2), A: int64(math.Pow10(rest % 2))}, end)
		},
		"body": func(n int) impl.Module {
			rest := n - len("func 0\ncode\nbr 1000\nend\n")
			body := []impl.Ins{{Op: 0x0c, A: int64(math.Pow10(3 + rest%4))}}
			for range rest / 4 {
				body = append(body, ins(0x01))
			}
			return oneCode(nil, append(body, end)...)
		},
	}
}

func TestTextMax(t *testing.T) {
	for name, of := range sized() {
		for n := 299990; n <= 300000; n++ {
			m := of(n)
			text := impl.PrintText(m)
			if len(text) != n || string(text) != wantText(m) {
				t.Errorf("%s: %d bytes are printed, want %d", name, len(text), n)
			}
			if got := impl.ParseText(text); !same(got, impl.TextRes{Module: m}) {
				t.Errorf("%s: %d bytes: line %d", name, n, got.Line)
			}
		}
		for _, n := range []int{300001, 300002, 300003, 400000} {
			m := of(n)
			if got := impl.PrintText(m); len(got) != 0 {
				t.Errorf("%s: %d bytes are printed", name, len(got))
			}
			checkLong(t, wantText(m))
		}
	}
	for _, n := range []int{300001, 1 << 20} {
		for _, c := range []string{"\n", " ", "x", "\x00", "\xff"} {
			checkLong(t, strings.Repeat(c, n))
		}
	}
	checkWrongLine(t, strings.Repeat("\n", 300000), 1)
	checkWrongLine(t, strings.Repeat(" ", 300000), 1)
	ones := strings.Repeat("memory 11\n", 30000)
	checkWrongLine(t, ones[:299999], 30000)
	checkWrongLine(t, ones[:299991]+"01234567\n", 30000)
	if got := impl.ParseText([]byte(ones)); got.Line != 0 || len(got.Module.Mems) != 30000 {
		t.Errorf("TextMax bytes in 30000 lines: %d", got.Line)
	}
}

func checkLong(t *testing.T, text string) {
	t.Helper()
	if got := impl.ParseText([]byte(text)); len(text) <= 300000 || !same(got, impl.TextRes{Line: -1}) {
		t.Errorf("%d bytes: line %d", len(text), got.Line)
	}
}

func TestNumbersAtTheirEndsInText(t *testing.T) {
	for name, set := range u32Fields() {
		for _, n := range u32s() {
			m := fullModule()
			set(&m, n)
			checkModuleText(t, m, wantText(m))
		}
		for _, n := range noU32s() {
			m := fullModule()
			set(&m, n)
			if got := impl.PrintText(m); len(got) != 0 {
				t.Errorf("%s: %d is printed %q", name, n, got)
			}
		}
	}
}

func TestWhatIsNotWellFormedIsNotPrinted(t *testing.T) {
	k := newMaker(83)
	spoiled := 0
	for range 4000 {
		m := k.module()
		k.spoilAny(&m)
		if impl.WellFormed(m) {
			checkModuleText(t, m, wantText(m))
			continue
		}
		spoiled++
		if got := impl.PrintText(m); len(got) != 0 {
			t.Fatalf("%+v\nis printed %q", m, got)
		}
	}
	for name, m := range notWellFormed() {
		if got := impl.PrintText(m); len(got) != 0 {
			t.Errorf("%s: printed %q", name, got)
		}
	}
	if spoiled < 100 {
		t.Errorf("only %d modules are spoiled", spoiled)
	}
}

// stretch is the memory of a slice, with what it could still grow into.
type stretch struct {
	from, to uintptr
	where    string
}

func stretches(v reflect.Value, where string) []stretch {
	var out []stretch
	switch v.Kind() {
	case reflect.Slice:
		size := v.Type().Elem().Size()
		if v.Cap() > 0 {
			out = append(out, stretch{v.Pointer(), v.Pointer() + uintptr(v.Cap())*size, where})
		}
		if kind := v.Type().Elem().Kind(); kind != reflect.Slice && kind != reflect.Struct {
			return out
		}
		for i := range v.Len() {
			out = append(out, stretches(v.Index(i), fmt.Sprintf("%s[%d]", where, i))...)
		}
	case reflect.Struct:
		for i := range v.NumField() {
			out = append(out, stretches(v.Field(i), where+"."+v.Type().Field(i).Name)...)
		}
	}
	return out
}

// checkApart: no two lists in these values share memory.
func checkApart(t *testing.T, values ...any) {
	t.Helper()
	var all []stretch
	for i, v := range values {
		all = append(all, stretches(reflect.ValueOf(v), fmt.Sprintf("value %d", i))...)
	}
	for i, a := range all {
		for _, b := range all[:i] {
			if a.from < b.to && b.from < a.to {
				t.Errorf("%s and %s share memory", a.where, b.where)
			}
		}
	}
}

func TestTextIsNewMemory(t *testing.T) {
	text := []byte(fullText)
	first, second := impl.ParseText(text), impl.ParseText(text)
	printed, again := impl.PrintText(first.Module), impl.PrintText(first.Module)
	checkApart(t, text, first, second, printed, again)
	if string(text) != fullText || !same(first.Module, fullModule()) {
		t.Fatalf("an argument was written to")
	}
	clear(text)
	clear(again)
	if !same(first.Module, fullModule()) || string(printed) != fullText {
		t.Errorf("an answer hangs on its argument, or on another answer")
	}
	many := "elem 1 2\nbr_table 1 2\nbr_table 1\nend\nelem 1 2\nbr_table 1 2\nend\ndata \"ab\"\nend\ndata \"ab\"\nend\n"
	checkApart(t, impl.ParseText([]byte(many)))
}
