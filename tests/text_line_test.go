package tests

import (
	"bytes"
	"fmt"
	"math"
	"slices"
	"strings"
	"testing"

	"loop.example/s00119/impl"
)

// checkModuleText: m is printed as text, and text is read as m.
func checkModuleText(t *testing.T, m impl.Module, text string) {
	t.Helper()
	if got := string(impl.PrintText(m)); got != text {
		t.Errorf("%+v\nis printed\n%s\nwant\n%s", m, got, text)
	}
	if got := impl.ParseText([]byte(text)); !same(got, impl.TextRes{Module: m}) {
		t.Errorf("%s\nis read as %+v\nwant %+v", text, got, m)
	}
}

func checkWrongLine(t *testing.T, text string, line int64) {
	t.Helper()
	if got := impl.ParseText([]byte(text)); !same(got, impl.TextRes{Line: line}) {
		t.Errorf("%q: line %d, want %d (or a module beside it: %+v)", text, got.Line, line, got.Module)
	}
}

// fullText is fullModule, written by hand.
const fullText = `custom 0 "c" "\01\02"
type ->
type i32 i64 f32 f64 -> i32
custom 1 "c" "\01\02"
import "host" "out" func 1
import "a" "t" table 1 2
import "a" "m" memory 3
import "a" "g" global f64 var
custom 2 "c" "\01\02"
func 0
func 1
custom 3 "c" "\01\02"
table 4 5
custom 4 "c" "\01\02"
memory 6
custom 5 "c" "\01\02"
global i32 var
i32.const 7
end
global i64 const
i64.const 1099511627776
end
custom 6 "c" "\01\02"
export "f" func 1
export "t" table 0
export "m" memory 0
export "g" global 0
custom 7 "c" "\01\02"
start 2
custom 8 "c" "\01\02"
elem 1 2
i32.const 0
end
custom 9 "c" "\01\02"
code
nop
end
code 2 i32 1 f64
if
else
end
end
custom 10 "c" "\01\02"
data "abc"
i32.const 8
end
custom 11 "c" "\01\02"
`

func TestTextByHand(t *testing.T) {
	m := fullModule()
	checkModuleText(t, m, fullText)
	if !same(m, fullModule()) {
		t.Errorf("the argument was written to")
	}
	checkModuleText(t, impl.Module{}, "")
	if got := impl.ParseText(nil); !same(got, impl.TextRes{}) {
		t.Errorf("no text: %+v", got)
	}
}

// oneCode is a module with one function of that code.
func oneCode(groups []impl.Group, body ...impl.Ins) impl.Module {
	return impl.Module{Funcs: []int64{0}, Codes: []impl.Code{{Locals: groups, Body: body}}}
}

func TestEveryFormOfLine(t *testing.T) {
	end := ins(0x0b)
	limits := func(lim ...impl.Limits) []impl.Limits { return lim }
	imported := func(x impl.Import) impl.Module { return impl.Module{Imports: []impl.Import{x}} }
	exported := func(x impl.Export) impl.Module { return impl.Module{Exports: []impl.Export{x}} }
	global := func(ty int64, mut bool) impl.Module {
		return impl.Module{Globals: []impl.Global{{Type: impl.GlobalType{Type: ty, Mut: mut}, Init: []impl.Ins{end}}}}
	}
	rows := map[string]impl.Module{
		"type ->\n":                         {Types: []impl.FuncType{{}}},
		"type -> i32\n":                     {Types: []impl.FuncType{{Results: []int64{0x7f}}}},
		"type f64 ->\n":                     {Types: []impl.FuncType{{Params: []int64{0x7c}}}},
		"type i32 i64 f32 f64 i32 -> f32\n": {Types: []impl.FuncType{{Params: []int64{0x7f, 0x7e, 0x7d, 0x7c, 0x7f}, Results: []int64{0x7d}}}},
		"type ->\ntype -> i64\ntype ->\n":   {Types: []impl.FuncType{{}, {Results: []int64{0x7e}}, {}}},

		"import \"\" \"\" func 0\n":                          imported(impl.Import{}),
		"import \"a\" \"b c\" func 4294967295\n":             imported(impl.Import{Module: "a", Name: "b c", Type: math.MaxUint32}),
		"import \" \" \"\\22\\5c\" table 1\n":                imported(impl.Import{Module: " ", Name: `"\`, Kind: 1, Lim: impl.Limits{Min: 1}}),
		"import \"\\c3\\a9\" \"\" table 2 1\n":               imported(impl.Import{Module: "é", Kind: 1, Lim: impl.Limits{Min: 2, Max: 1, HasMax: true}}),
		"import \"\" \"\\00\\7f\\0a\" memory 0\n":            imported(impl.Import{Name: "\x00\x7f\n", Kind: 2}),
		"import \"\" \"\" memory 0 0\n":                      imported(impl.Import{Kind: 2, Lim: impl.Limits{HasMax: true}}),
		"import \"\" \"\" global i32 const\n":                imported(impl.Import{Kind: 3, Global: impl.GlobalType{Type: 0x7f}}),
		"import \"func\" \"-> \" global f64 var\n":           imported(impl.Import{Module: "func", Name: "-> ", Kind: 3, Global: impl.GlobalType{Type: 0x7c, Mut: true}}),
		"import \"\" \"\" func 1\nimport \"\" \"\" func 1\n": {Imports: []impl.Import{{Type: 1}, {Type: 1}}},
		"table 0\n":                                           {Tables: limits(impl.Limits{})},
		"table 0 0\n":                                         {Tables: limits(impl.Limits{HasMax: true})},
		"table 7 4294967295\ntable 4294967295\n":              {Tables: limits(impl.Limits{Min: 7, Max: math.MaxUint32, HasMax: true}, impl.Limits{Min: math.MaxUint32})},
		"memory 0\n":                                          {Mems: limits(impl.Limits{})},
		"memory 9 3\n":                                        {Mems: limits(impl.Limits{Min: 9, Max: 3, HasMax: true})},
		"memory 1\nmemory 1 1\n":                              {Mems: limits(impl.Limits{Min: 1}, impl.Limits{Min: 1, Max: 1, HasMax: true})},
		"global i32 const\nend\n":                             global(0x7f, false),
		"global i64 var\nend\n":                               global(0x7e, true),
		"global f32 var\nend\n":                               global(0x7d, true),
		"global f64 const\nend\n":                             global(0x7c, false),
		"export \"\" func 0\n":                                exported(impl.Export{}),
		"export \"x y\" table 1\n":                            exported(impl.Export{Name: "x y", Kind: 1, Index: 1}),
		"export \"\\5c\" memory 4294967295\n":                 exported(impl.Export{Name: `\`, Kind: 2, Index: math.MaxUint32}),
		"export \"a\" global 2\nexport \"a\" global 2\n":      {Exports: []impl.Export{{Name: "a", Kind: 3, Index: 2}, {Name: "a", Kind: 3, Index: 2}}},
		"start 0\n":                                           {HasStart: true},
		"start 4294967295\n":                                  {HasStart: true, Start: math.MaxUint32},
		"elem\nend\n":                                         {Elems: []impl.Elem{{Offset: []impl.Ins{end}}}},
		"elem 0 4294967295 7\ni32.const -1\nend\n":            {Elems: []impl.Elem{{Offset: []impl.Ins{{Op: 0x41, V: math.MaxUint32}, end}, Funcs: []int64{0, math.MaxUint32, 7}}}},
		"elem 1\nend\nelem\nnop\nend\n":                       {Elems: []impl.Elem{{Offset: []impl.Ins{end}, Funcs: []int64{1}}, {Offset: insList(0x01, 0x0b)}}},
		"data \"\"\nend\n":                                    {Datas: []impl.Data{{Offset: []impl.Ins{end}}}},
		"data \"\\ff\\00 ~\"\nend\ndata \"x\"\nend\n":         {Datas: []impl.Data{{Offset: []impl.Ins{end}, Bytes: []byte("\xff\x00 ~")}, {Offset: []impl.Ins{end}, Bytes: []byte("x")}}},
		"custom 0 \"\" \"\"\n":                                {Customs: []impl.Custom{{}}},
		"custom 0 \"b\" \"\\ff\"\ncustom 0 \"a b\" \"c d\"\n": {Customs: []impl.Custom{{Name: "b", Bytes: []byte{0xff}}, {Name: "a b", Bytes: []byte("c d")}}},
		"func 0\ncode\nend\n":                                 oneCode(nil, end),
		"func 0\ncode 0 i32\nend\n":                           oneCode([]impl.Group{{Type: 0x7f}}, end),
		"func 0\ncode 4294967295 f64\nend\n":                  oneCode([]impl.Group{{N: math.MaxUint32, Type: 0x7c}}, end),
		"func 0\ncode 4294967295 f64 0 i32\nend\n":            oneCode([]impl.Group{{N: math.MaxUint32, Type: 0x7c}, {Type: 0x7f}}, end),
		"func 0\ncode 2 i64 2 i64 1 f32\nend\n":               oneCode([]impl.Group{{N: 2, Type: 0x7e}, {N: 2, Type: 0x7e}, {N: 1, Type: 0x7d}}, end),
		"func 3\nfunc 0\ncode\nend\ncode\nunreachable\nend\n": {Funcs: []int64{3, 0}, Codes: []impl.Code{{Body: []impl.Ins{end}}, {Body: insList(0x00, 0x0b)}}},
	}
	for text, m := range rows {
		checkModuleText(t, m, text)
	}
}

// frame is a text with a place for one line: what comes ahead of it and what
// must come behind it.
type frame struct {
	ahead, behind string
}

func (f frame) text(line string) string { return f.ahead + line + "\n" + f.behind }

func (f frame) number() int64 { return int64(strings.Count(f.ahead, "\n")) + 1 }

// checkLine: the line is as it is printed, and what is read of it is what the
// reader of the tests has.
func checkLine(t *testing.T, ref *refText, f frame, line string) {
	t.Helper()
	text := f.text(line)
	got := impl.ParseText([]byte(text))
	if want := ref.parse(text); want.Line != 0 || !same(got, want) || !impl.WellFormed(got.Module) {
		t.Errorf("%q: %+v, want %+v", text, got, want)
	}
	if printed := string(impl.PrintText(got.Module)); printed != text {
		t.Errorf("%q is printed again %q", text, printed)
	}
}

// numberPlaces has lines with a place for a u32, each in its frame.
func numberPlaces() map[string]frame {
	list := frame{"", "end\n"}
	body := frame{"func 0\ncode\n", "end\n"}
	return map[string]frame{
		`import "" "" func %s`: {}, `import "" "" table %s`: {}, `import "" "" table %s 3`: {}, `import "" "" table 3 %s`: {}, `import "" "" memory %s`: {}, `import "" "" memory %s 3`: {}, `import "" "" memory 3 %s`: {},
		`func %s`: {"", "code\nend\n"}, `table %s`: {}, `table %s 3`: {}, `table 3 %s`: {}, `memory %s`: {}, `memory %s 3`: {}, `memory 3 %s`: {}, `export "" func %s`: {}, `export "" table %s`: {}, `export "" memory %s`: {}, `export "" global %s`: {},
		`start %s`: {}, `elem %s`: list, `elem %s 3`: list, `elem 3 %s 3`: list, `elem 3 %s`: list, `code %s i32`: {"func 0\n", "end\n"}, `code 0 i64 %s i32`: {"func 0\n", "end\n"}, `code %s f32 0 i32`: {"func 0\n", "end\n"},
		`br %s`: body, `br_table %s`: body, `br_table %s 3`: body, `br_table 3 %s`: body, `call_indirect %s`: body, `i32.load %s 3`: body, `f64.store 3 %s`: body,
	}
}

func TestNumbersOfLines(t *testing.T) {
	ref := newRefText()
	for place, f := range numberPlaces() {
		for _, word := range goodU32s() {
			checkLine(t, ref, f, fmt.Sprintf(place, word))
		}
		for _, word := range append(badU32s(), "x", "->", `""`) {
			checkWrongLine(t, f.text(fmt.Sprintf(place, word)), f.number())
		}
		for n := range 12 {
			word := strings.Repeat("1", n)
			if line := fmt.Sprintf(place, word); n >= 1 && n <= 10 {
				checkLine(t, ref, f, line)
			} else {
				checkWrongLine(t, f.text(line), f.number())
			}
		}
	}
}

// typePlaces has lines with a place for a value type.
func typePlaces() map[string]frame {
	list := frame{"", "end\n"}
	body := frame{"func 0\ncode\n", "end\nend\n"}
	return map[string]frame{
		`type %s ->`: {}, `type -> %s`: {}, `type i32 %s i32 ->`: {}, `type i32 -> %s`: {}, `import "" "" global %s const`: {}, `import "" "" global %s var`: {}, `global %s const`: list, `global %s var`: list,
		`code 1 %s`: {"func 0\n", "end\n"}, `code 1 i32 2 %s`: {"func 0\n", "end\n"}, `code 1 %s 2 i32`: {"func 0\n", "end\n"}, `block %s`: body, `loop %s`: body, `if %s`: body,
	}
}

func TestTypesOfLines(t *testing.T) {
	ref := newRefText()
	for place, f := range typePlaces() {
		for word := range typeWords() {
			checkLine(t, ref, f, fmt.Sprintf(place, word))
		}
		for _, word := range []string{"", " ", "i", "i3", "i33", "i16", "I32", "i32i32", "i32,", "v128", "none", "funcref", "127", "0x7f", "0", "->", "var", `"i32"`, "i32\t", "\ti32", "i32\x00", " i32", "i32 "} {
			if word == "->" && strings.Contains(place, "->") {
				continue
			}
			checkWrongLine(t, f.text(fmt.Sprintf(place, word)), f.number())
		}
	}
	for _, line := range []string{"type", "type ", "type i32", "type i32 i32", "type -> ->", "type -> i32 ->", "type i32 -> -> i32", "type -> i32 i32", "type -> i32 i64", "type -> i32 i32 i32", "type - >", "type ->i32", "type i32->", "type >", "type =>", "type →",
		"type -> 0", "type 0 ->", "type i32 -> i32 ->", "types ->", "Type ->", "type-> i32", `type "->"`, "-> type"} {
		checkWrongLine(t, line+"\n", 1)
	}
}

func TestWordsOfLines(t *testing.T) {
	words := map[string][]string{
		`global i32 %s`:              {"const", "var"},
		`import "" "" global i32 %s`: {"const", "var"},
		`export "" %s 0`:             kindWords(),
		`import "" "" %s 0`:          kindWords()[:3],
	}
	for place, good := range words {
		f := frame{}
		if strings.HasPrefix(place, "global") {
			f.behind = "end\n"
		}
		for _, word := range good {
			checkLine(t, newRefText(), f, fmt.Sprintf(place, word))
		}
		for _, word := range []string{"", " ", "mut", "Const", "constant", "va", "vars", "0", "1", "true", "i32", "fun", "function", "mem", "tables", "FUNC", "elem", "type", "global", `"func"`, "->"} {
			if !slices.Contains(good, word) {
				checkWrongLine(t, f.text(fmt.Sprintf(place, word)), 1)
			}
		}
	}
	for _, line := range []string{"import", `import ""`, `import "" ""`, `import "" "" func`, `import "" "" table`, `import "" "" table 1 2 3`, `import "" "" memory`, `import "" "" memory 1 2 3`, `import "" "" global`, `import "" "" global i32`,
		`import "" "" global const`, `import "" "" global const i32`, `import "" "" global i32 const var`, `import "" "" global i32 0`, `import "" "" func i32`, `import "" "" func 0 0`, `import "" func 0`, `import func 0`, `import a b func 0`, `import "" "" "" func 0`,
		"func", "func 0 0", "func i32", "table", "table 0 0 0", "table i32", "memory", "memory 0 0 0", "memory x", "global", "global i32", "global const", "global const i32", "global i32 const 0", "global i32 const var", "global 0 const",
		"export", `export ""`, `export "" func`, `export func 0`, `export "" 0`, `export "" func 0 0`, `export "" func i32`, `export "" global i32 const`, `export "" "" func 0`, "start", "start 0 0", "start x", `start ""`, "elem x", "elem 0 x", "elem i32",
		`elem ""`, "code i32", "code 1", "code 1 i32 1", "code 1 1", "code i32 1", "code i32 i32", "code 1 i32 i32", "code x", "data", "data x", `data "" ""`, `data "" 0`, `data 0 ""`, "custom", "custom 0", `custom 0 ""`, `custom "" ""`, `custom 0 "" "" ""`,
		`custom 0 "" 0`, `custom 0 0 ""`, `custom "" 0 ""`, "tables 0", "function 0", "module", "(module)", ";;", "#", "section 1", "locals 1 i32"} {
		checkWrongLine(t, line+"\n", 1)
		checkWrongLine(t, "custom 0 \"\" \"\"\n"+line+"\nend\n", 2)
	}
}

// strPlaces has lines with a place for a STR; true where it is a name.
func strPlaces() map[string]bool {
	return map[string]bool{`import %s "" func 0`: true, `import "" %s memory 1`: true, `export %s func 0`: true, `custom 0 %s ""`: true, `custom 0 "" %s`: false, `data %s`: false}
}

func strFrame(place string) frame {
	if strings.HasPrefix(place, "data") {
		return frame{"", "end\n"}
	}
	return frame{}
}

func TestEveryByteInStrs(t *testing.T) {
	ref := newRefText()
	for place, isName := range strPlaces() {
		f := strFrame(place)
		for c := range 256 {
			raw := string([]byte{byte(c)})
			plain := c >= 32 && c <= 126 && c != '"' && c != '\\'
			for _, around := range []string{"%s", "a%s", "%sa", "a %s b", "%[1]s%[1]s"} {
				as := `"` + fmt.Sprintf(around, raw) + `"`
				coded := `"` + fmt.Sprintf(around, fmt.Sprintf("\\%02x", c)) + `"`
				upper := `"` + fmt.Sprintf(around, fmt.Sprintf("\\%02X", c)) + `"`
				if plain {
					checkLine(t, ref, f, fmt.Sprintf(place, as))
					checkWrongLine(t, f.text(fmt.Sprintf(place, coded)), 1)
				} else {
					checkWrongLine(t, f.text(fmt.Sprintf(place, as)), 1)
				}
				if !plain && (c < 128 || !isName) {
					checkLine(t, ref, f, fmt.Sprintf(place, coded))
				} else if !plain {
					checkWrongLine(t, f.text(fmt.Sprintf(place, coded)), 1)
				}
				if upper != coded {
					checkWrongLine(t, f.text(fmt.Sprintf(place, upper)), 1)
				}
			}
		}
	}
}

func TestStrsThatAreNone(t *testing.T) {
	bad := []string{"", `"`, `"a`, `a"`, `a`, `'a'`, "`a`", `"a""`, `"""`, `""""`, `"a"b"`, `"a"b`, `b"a"`, `"\"`, `"\""`, `"\\"`, `"\5"`, `"\5 "`, `"\0"`, `"\g0"`, `"\0g"`, `"\ 0"`, `"\n"`, `"\t"`, `"\x00"`, `"\u{41}"`, `"\41"`, `"\20"`, `"\7e"`, `"\5C"`, `"\fF"`, `"\Ff"`,
		`"\+0"`, `"\-1"`, `"\0_"`, `"\_0"`, `"\0x"`, `"a\"`, `"\22`, `"\5c`, `\22`, `"a" `, ` "a"`, "\"a\tb\"", "\"\x7f\"", "\"é\"", "\"\xff\"", "\"\x00\"", `"\e`, `"\0`, "“a”", `"\000"x`, `"\`}
	for place, isName := range strPlaces() {
		f := strFrame(place)
		for _, str := range bad {
			checkWrongLine(t, f.text(fmt.Sprintf(place, str)), 1)
		}
		for _, str := range []string{`""`, `" "`, `"  "`, `" a"`, `"a "`, `"\00"`, `"\0a"`, `"\7f"`, `"\1f"`, `"\22"`, `"\5c"`, `"\5c41"`, `"\22\22"`, `"\000"`, `"->"`, `"func 0"`, `"\c3\a9"`, `"\f4\8f\bf\bf"`, `"\ed\9f\bf"`, `"'"`, `"~!#[]"`} {
			checkLine(t, newRefText(), f, fmt.Sprintf(place, str))
		}
		for _, str := range []string{`"\ff"`, `"\80"`, `"a\c3"`, `"\c3"`, `"\c3a"`, `"\c0\80"`, `"\ed\a0\80"`, `"\f4\90\80\80"`, `"\e0\9f\bf"`, `"ok\f0\9f\98"`, `"\a9\c3"`} {
			if isName {
				checkWrongLine(t, f.text(fmt.Sprintf(place, str)), 1)
			} else {
				checkLine(t, newRefText(), f, fmt.Sprintf(place, str))
			}
		}
	}
	all := make([]byte, 256)
	for c := range all {
		all[c] = byte(c)
	}
	text := "data " + strWord(string(all)) + "\nend\n"
	if got := impl.ParseText([]byte(text)); got.Line != 0 || !bytes.Equal(got.Module.Datas[0].Bytes, all) || string(impl.PrintText(got.Module)) != text {
		t.Errorf("all bytes in one STR: %+v", got)
	}
}

// Every line of the full text, with a space or another sign of that kind too
// many or too few.
func TestSpaces(t *testing.T) {
	lines := slices.Collect(strings.Lines(fullText))
	for i, line := range lines {
		line = strings.TrimSuffix(line, "\n")
		f := frame{strings.Join(lines[:i], ""), strings.Join(lines[i+1:], "")}
		bad := []string{" " + line, line + " ", "\t" + line, line + "\t", line + "\r", "  " + line, line + "  ", line + " \t", "\xef\xbb\xbf" + line, line + "\x00", line + " ;; why", line + ";"}
		for place := range len(line) {
			if line[place] == ' ' {
				bad = append(bad, line[:place]+" "+line[place:], line[:place]+"\t"+line[place+1:], line[:place]+"_"+line[place+1:], line[:place]+"\u00a0"+line[place+1:], line[:place]+"\v"+line[place+1:])
			}
		}
		for _, other := range bad {
			checkWrongLine(t, f.text(other), f.number())
		}
		checkWrongLine(t, f.ahead+"\n"+line+"\n"+f.behind, f.number())
		checkWrongLine(t, f.ahead+" \n"+line+"\n"+f.behind, f.number())
		checkWrongLine(t, f.ahead+line+"\n\n"+f.behind, f.number()+1)
		checkWrongLine(t, f.ahead+line, f.number())
	}
}

func TestLastLineWithoutANewline(t *testing.T) {
	rows := []struct {
		text string
		line int64
	}{
		{"type ->", 1}, {"nop", 1}, {"end", 1}, {"x", 1}, {" ", 1}, {"\n", 1}, {"\n\n", 1}, {"\r\n", 1}, {"type ->\n\n", 2}, {"type ->\n ", 2}, {"type ->\ntype ->", 2}, {"type ->\nx\ntype ->", 2}, {"func 0", 1}, {"func 0\ncode\nend", 3}, {"func 0\ncode\nnop", 3},
		{"func 0\ncode", 2}, {"global i32 var", 1}, {"global i32 var\nend", 2}, {"type ->\r\n", 1}, {"type ->\n\x00", 2}, {"start 0\nstart 0", 2}, {"start 0\nmemory 0\nstart 0", 2},
	}
	for _, r := range rows {
		checkWrongLine(t, r.text, r.line)
	}
}

// sectionLines has the lines of each section, by its number.
func sectionLines() []string {
	return []string{"", "type ->\n", "import \"\" \"\" func 0\n", "func 0\n", "table 0\n", "memory 0\n", "global i32 var\nend\n", "export \"\" func 0\n", "start 0\n", "elem\nend\n", "code\nend\n", "data \"\"\nend\n"}
}

func TestOrderOfSections(t *testing.T) {
	lines := sectionLines()
	for a := 1; a < 12; a++ {
		for b := 1; b < 12; b++ {
			text := lines[a] + lines[b]
			line := int64(0)
			switch second := int64(strings.Count(lines[a], "\n")) + 1; {
			case b < a || a == 8 && b == 8:
				line = second
			case a == 3 && b != 10 || b == 3 && a != 10, a == 10 && b != 3 || b == 10 && a != 3:
				line = int64(strings.Count(text, "\n")) + 1
			}
			got := impl.ParseText([]byte(text))
			if got.Line != line || line == 0 && string(impl.PrintText(got.Module)) != text {
				t.Errorf("%d behind %d: %+v, want %d", b, a, got, line)
			}
			for c := b + 1; c < a; c++ {
				checkWrongLine(t, lines[c]+lines[a]+lines[b], int64(strings.Count(lines[c]+lines[a], "\n"))+1)
			}
		}
	}
	for _, text := range []string{"start 0\nstart 0\n", "start 0\nstart 1\n", "start 5\nstart 0\nstart 1\n", "start 0\nstart x\n", "start 0\nmemory 0\n"} {
		checkWrongLine(t, text, 2)
	}
	checkWrongLine(t, "start 0\ncustom 8 \"\" \"\"\nstart 0\n", 3)
}

// A custom stands at each place between two sections with each AFTER.
func TestCustomsAtEachPlace(t *testing.T) {
	sections := []string{"", "type ->\ntype ->\n", "import \"\" \"\" func 0\n", "func 0\n", "table 0\n", "memory 0\n", "global i32 var\nend\n", "export \"\" func 0\n", "start 0\n", "elem\nend\n", "code\nend\n", "data \"\"\nend\n"}
	for bits := range 1 << 12 {
		if bits&1 == 1 || bits>>3&1 != bits>>10&1 || bits%7 > 1 {
			continue
		}
		last := 0
		for place := range 12 {
			var ahead, behind string
			for number, lines := range sections {
				if bits>>number&1 == 1 && number <= place {
					ahead += lines
					last = number
				} else if bits>>number&1 == 1 {
					behind += lines
				}
			}
			f := frame{ahead, behind}
			for after := range 14 {
				line := fmt.Sprintf(`custom %d "c" "\00"`, after)
				if after != last {
					checkWrongLine(t, f.text(line), f.number())
					continue
				}
				got := impl.ParseText([]byte(f.text(line)))
				if got.Line != 0 || !same(got.Module.Customs, []impl.Custom{{After: int64(after), Name: "c", Bytes: []byte{0}}}) || string(impl.PrintText(got.Module)) != f.text(line) {
					t.Errorf("%s: %+v", f.text(line), got)
				}
			}
		}
	}
	for _, after := range []string{"", "00", "-0", "+0", "0x0", "12", "255", "4294967295", "4294967296", "x", `""`, "0 0"} {
		checkWrongLine(t, "custom "+after+" \"\" \"\"\n", 1)
	}
	for _, after := range []string{"05", "+5", "5 ", "4", "6", "0"} {
		checkWrongLine(t, "memory 0\ncustom "+after+" \"\" \"\"\n", 2)
	}
}

// Words say no more of a custom's place than that its AFTER is the last section
// with a line, so lines of this section may follow it.
func TestCustomAmongTheLinesOfASection(t *testing.T) {
	custom := impl.Custom{After: 1, Name: "c"}
	text := "type ->\ncustom 1 \"c\" \"\"\ntype -> i32\n"
	want := impl.Module{Types: []impl.FuncType{{}, {Results: []int64{0x7f}}}, Customs: []impl.Custom{custom}}
	if got := impl.ParseText([]byte(text)); !same(got, impl.TextRes{Module: want}) {
		t.Errorf("%+v", got)
	}
	checkModuleText(t, want, "type ->\ntype -> i32\ncustom 1 \"c\" \"\"\n")
}

// listHeads has what stands ahead of a list of instructions, and what ends the
// text behind it.
func listHeads() map[string]string {
	return map[string]string{"global i32 var\n": "export \"\" global 0\n", "elem 0\n": "custom 9 \"\" \"\"\n", "data \"\"\n": "data \"\"\nend\n", "func 0\ncode\n": "custom 10 \"\" \"\"\n", "func 0\nfunc 0\ncode 1 i32\nend\ncode\n": "data \"\"\nend\n"}
}

func TestListsInText(t *testing.T) {
	rows := []struct {
		list string
		line int // of the list's lines, counted from 1, that cannot stand there; 0 if all can
	}{
		{"end", 0}, {"nop; end", 0}, {"block; end; end", 0}, {"loop i32; end; end", 0}, {"if; end; end", 0}, {"if; else; end; end", 0}, {"if i64; nop; else; nop; end; nop; end", 0}, {"if; block; end; else; loop; end; end; end", 0}, {"if; if; else; end; else; end; end", 0}, {"if; else; if; else; end; end; end", 0},
		{"else; end", 1}, {"nop; else", 2}, {"block; else; end; end", 2}, {"loop; else; end; end", 2}, {"if; end; else; end", 3}, {"if; else; else; end; end", 3}, {"if; block; else; end; end; end", 3}, {"if; else; block; else; end; end; end", 4}, {"if; else; nop; else", 4}, {"if; else; if; else; else", 5},
		{"end; end", 2}, {"end; nop", 2}, {"end; else", 2}, {"block; end; end; end", 4}, {"end; block; end", 2}, {"nop; x; end", 2}, {"x; end", 1}, {"block; x; end; end", 2}, {"end; x", 2}, {"nop 1; end", 1},
	}
	for head, tail := range listHeads() {
		lines := int64(strings.Count(head, "\n"))
		for _, r := range rows {
			list := strings.ReplaceAll(r.list, "; ", "\n") + "\n"
			line := int64(0)
			if r.line > 0 {
				line = lines + int64(r.line)
			}
			got := impl.ParseText([]byte(head + list + tail))
			if got.Line != line || line == 0 && !impl.WellFormed(got.Module) {
				t.Errorf("%q: %+v, want %d", head+list+tail, got, line)
			}
		}
	}
}

// A list is open at the text's end, and at each line that is no instruction.
func TestListsThatAreOpen(t *testing.T) {
	for head := range listHeads() {
		for _, list := range []string{"", "nop\n", "block\n", "block\nend\n", "if\nelse\n", "if\nelse\nend\n", "loop\nblock\nend\nend\n", "i32.const 1\ndrop\n"} {
			behind := int64(strings.Count(head+list, "\n")) + 1
			checkWrongLine(t, head+list, behind)
			for _, line := range sectionLines()[1:] {
				checkWrongLine(t, head+list+line, behind)
				checkWrongLine(t, head+list+line+"end\n", behind)
			}
			for _, line := range []string{"", " ", "custom 0 \"\" \"\"", "custom 9 \"\" \"\"", "custom 10 \"\" \"\"", "custom 11 \"\" \"\"", "custom 6 \"\" \"\"", "x", "end ", "local.get", "i32.const 2147483648", "i64.const 9223372036854775808", "f32.const 0x0", "br -1", "->"} {
				checkWrongLine(t, head+list+line+"\nend\n", behind)
			}
			checkWrongLine(t, head+list+"end", behind)
		}
	}
}

func TestInstructionsOutsideOfLists(t *testing.T) {
	for _, w := range allOps() {
		line := w.name + plainFields()[w.form] + "\n"
		checkWrongLine(t, line, 1)
		for number, section := range sectionLines() {
			if number == 10 {
				section = "func 0\n" + section
			}
			checkWrongLine(t, section+line, int64(strings.Count(section, "\n"))+1)
			checkWrongLine(t, section+line+"end\n", int64(strings.Count(section, "\n"))+1)
		}
		checkWrongLine(t, "custom 0 \"\" \"\"\n"+line, 2)
	}
}

func TestCodesAndFuncsInText(t *testing.T) {
	for funcs := range 5 {
		for codes := range 5 {
			text := strings.Repeat("func 0\n", funcs) + "memory 1\n" + strings.Repeat("code\nnop\nend\n", codes) + "data \"\"\nend\n"
			if funcs != codes {
				checkWrongLine(t, text, int64(strings.Count(text, "\n"))+1)
				checkWrongLine(t, text+"x\n", int64(strings.Count(text, "\n"))+1)
				checkWrongLine(t, text+"custom 11 \"\" \"\"", int64(strings.Count(text, "\n"))+1)
			} else if got := impl.ParseText([]byte(text)); got.Line != 0 || len(got.Module.Codes) != codes || string(impl.PrintText(got.Module)) != text {
				t.Errorf("%d: %+v", codes, got)
			}
		}
	}
}

func TestGroupsTogetherInText(t *testing.T) {
	rows := []struct {
		groups string
		ok     bool
	}{
		{"", true}, {" 4294967295 i32", true}, {" 4294967296 i32", false}, {" 4294967295 i32 0 i64", true}, {" 0 i32 4294967295 i64", true}, {" 4294967295 i32 1 i64", false}, {" 1 i32 4294967295 i64", false}, {" 2147483648 i32 2147483647 i32", true},
		{" 2147483648 i32 2147483648 i32", false}, {" 2147483648 i32 1073741824 f32 1073741823 f64", true}, {" 2147483648 i32 1073741824 f32 1073741824 f64", false}, {" 4294967295 i32 4294967295 i32", false}, {" 4294967295 i32 4294967295 i32 2 i32", false},
		{strings.Repeat(" 1 i32", 30000), true}, {strings.Repeat(" 4294967295 i32", 10000), false}, {" 4294967295 i32" + strings.Repeat(" 0 i32", 30000), true}, {" 4294967295 i32" + strings.Repeat(" 0 i32", 30000) + " 1 f32", false},
	}
	for _, r := range rows {
		text := "func 0\ncode" + r.groups + "\nend\n"
		if !r.ok {
			checkWrongLine(t, text, 2)
			checkWrongLine(t, "func 0\nfunc 0\ncode 1 i32\nend\ncode"+r.groups+"\nend\n", 5)
		} else if got := impl.ParseText([]byte(text)); got.Line != 0 || string(impl.PrintText(got.Module)) != text {
			t.Errorf("%.40s: line %d", r.groups, got.Line)
		}
	}
	if got := impl.ParseText([]byte("func 0\nfunc 0\ncode 4294967295 i32\nend\ncode 4294967295 i32\nend\n")); got.Line != 0 {
		t.Errorf("the groups of two bodies are counted together: %d", got.Line)
	}
}

func TestTheFirstOfSeveralWrongLines(t *testing.T) {
	lines := slices.Collect(strings.Lines(fullText))
	for first := range lines {
		for second := first; second < len(lines); second += 3 {
			for _, wrong := range []string{"x\n", "\n", "memory 01\n", "end end\n"} {
				changed := slices.Clone(lines)
				changed[first], changed[second] = wrong, wrong
				checkWrongLine(t, strings.Join(changed, ""), int64(first)+1)
			}
		}
	}
	checkWrongLine(t, "type ->\nfunc 0\nmemory -1\nstart 0\nstart 0\nx\n", 3)
	checkWrongLine(t, "type ->\nfunc 0\nmemory 1\nstart 0\nstart 0\nx\n", 5)
	checkWrongLine(t, "code\nend\nfunc 0\n", 3)
	checkWrongLine(t, "code\nelse\nnop nop\n", 2)
}
