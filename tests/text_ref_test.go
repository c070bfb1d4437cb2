package tests

import (
	"fmt"
	"math/big"
	"regexp"
	"strconv"
	"strings"

	"loop.example/s00119/impl"
)

// The lines as chapter 8 writes them.

func typeWord(t int64) string {
	for word, is := range typeWords() {
		if is == t {
			return word
		}
	}
	return "?"
}

// wordsOf has a space ahead of the word for each entry.
func wordsOf[T any](list []T, word func(T) string) string {
	var out strings.Builder
	for _, x := range list {
		out.WriteString(" " + word(x))
	}
	return out.String()
}

func numberWord(n int64) string { return fmt.Sprint(n) }

func strWord(s string) string {
	var out strings.Builder
	for _, c := range []byte(s) {
		if c < 32 || c > 126 || c == '"' || c == '\\' {
			fmt.Fprintf(&out, "\\%02x", c)
		} else {
			out.WriteByte(c)
		}
	}
	return `"` + out.String() + `"`
}

func limitWords(l impl.Limits) string {
	if l.HasMax {
		return fmt.Sprintf("%d %d", l.Min, l.Max)
	}
	return fmt.Sprint(l.Min)
}

func globalWords(t impl.GlobalType) string {
	return typeWord(t.Type) + map[bool]string{false: " const", true: " var"}[t.Mut]
}

func insLine(x impl.Ins, w opWant) string {
	switch w.form {
	case 1:
		if x.A == 0x40 {
			return w.name
		}
		return w.name + " " + typeWord(x.A)
	case 2, 4:
		return fmt.Sprintf("%s %d", w.name, x.A)
	case 3:
		return fmt.Sprintf("%s%s %d", w.name, wordsOf(x.L, numberWord), x.A)
	case 5:
		return fmt.Sprintf("%s %d %d", w.name, x.A, x.B)
	case 7:
		return fmt.Sprintf("%s %d", w.name, int32(x.V))
	case 8:
		return fmt.Sprintf("%s %d", w.name, int64(x.V))
	case 9:
		return fmt.Sprintf("%s 0x%08x", w.name, x.V)
	case 10:
		return fmt.Sprintf("%s 0x%016x", w.name, x.V)
	}
	return w.name
}

func kindWords() []string { return []string{"func", "table", "memory", "global"} }

func importLine(x impl.Import) string {
	what := []string{numberWord(x.Type), limitWords(x.Lim), limitWords(x.Lim), globalWords(x.Global)}[x.Kind]
	return fmt.Sprintf("import %s %s %s %s", strWord(x.Module), strWord(x.Name), kindWords()[x.Kind], what)
}

// wantText is the text of a module that is well formed.
func wantText(m impl.Module) string {
	var sections [12][]string
	wants := refWants()
	line := func(section int, line string, list ...impl.Ins) {
		sections[section] = append(sections[section], line)
		for _, x := range list {
			sections[section] = append(sections[section], insLine(x, wants[x.Op]))
		}
	}
	for _, t := range m.Types {
		line(1, "type"+wordsOf(t.Params, typeWord)+" ->"+wordsOf(t.Results, typeWord))
	}
	for _, x := range m.Imports {
		line(2, importLine(x))
	}
	for _, x := range m.Funcs {
		line(3, "func "+numberWord(x))
	}
	for _, l := range m.Tables {
		line(4, "table "+limitWords(l))
	}
	for _, l := range m.Mems {
		line(5, "memory "+limitWords(l))
	}
	for _, g := range m.Globals {
		line(6, "global "+globalWords(g.Type), g.Init...)
	}
	for _, x := range m.Exports {
		line(7, fmt.Sprintf("export %s %s %d", strWord(x.Name), kindWords()[x.Kind], x.Index))
	}
	if m.HasStart {
		line(8, "start "+numberWord(m.Start))
	}
	for _, e := range m.Elems {
		line(9, "elem"+wordsOf(e.Funcs, numberWord), e.Offset...)
	}
	for _, c := range m.Codes {
		groups := wordsOf(c.Locals, func(g impl.Group) string { return numberWord(g.N) + " " + typeWord(g.Type) })
		line(10, "code"+groups, c.Body...)
	}
	for _, d := range m.Datas {
		line(11, "data "+strWord(string(d.Bytes)), d.Offset...)
	}
	for _, c := range m.Customs {
		line(int(c.After), fmt.Sprintf("custom %d %s %s", c.After, strWord(c.Name), strWord(string(c.Bytes))))
	}
	var out strings.Builder
	for _, lines := range sections {
		for _, line := range lines {
			out.WriteString(line + "\n")
		}
	}
	return out.String()
}

// The reader of the tests: every line is held against the forms by itself
// first, then the lines are gone through by their grammar.

// refLine is what a line says by itself; put sets it into a module, with the
// list that follows it.
type refLine struct {
	word    string
	op      int64 // of an instruction, else -1
	section int
	after   int64
	put     func(m *impl.Module, list []impl.Ins)
	ins     impl.Ins
}

const (
	reNum    = `(0|[1-9][0-9]{0,9})`
	reType   = `(i32|i64|f32|f64)`
	reStr    = `"((?:[ !#-\[\]-~]|\\(?:[01][0-9a-f]|22|5c|7f|[89a-f][0-9a-f]))*)"`
	reSigned = `(0|-?[1-9][0-9]{0,%d})`
)

// refGrammar has a line's form with what is made of its parts; a nil put says
// that the parts are of the form, but not in range.
type refForm struct {
	re      *regexp.Regexp
	section int
	read    func(parts []string) func(m *impl.Module, list []impl.Ins)
}

type refPut = func(m *impl.Module, list []impl.Ins)

func numberOf(word string) int64 {
	n, _ := new(big.Int).SetString(word, 10)
	if !n.IsInt64() {
		return -1 << 62
	}
	return n.Int64()
}

func u32Of(word string) (int64, bool) {
	n := numberOf(word)
	return n, n < 1<<32
}

func strOf(word string) string {
	return regexp.MustCompile(`\\..`).ReplaceAllStringFunc(word, func(s string) string {
		c, _ := strconv.ParseUint(s[1:], 16, 8)
		return string([]byte{byte(c)})
	})
}

func nameOf(word string) (string, bool) {
	s := strOf(word)
	return s, strings.ToValidUTF8(s, "") == s
}

func limitsOf(low, high string) (impl.Limits, bool) {
	l := impl.Limits{}
	ok, okHigh := false, true
	l.Min, ok = u32Of(low)
	if high != "" {
		l.HasMax = true
		l.Max, okHigh = u32Of(high[1:])
	}
	return l, ok && okHigh
}

func putIf(holds bool, put refPut) refPut {
	if !holds {
		return nil
	}
	return put
}

func typesIn(words string) []int64 {
	var out []int64
	for _, word := range strings.Fields(words) {
		out = append(out, typeWords()[word])
	}
	return out
}

func numbersIn(words string) ([]int64, bool) {
	var out []int64
	for _, word := range strings.Fields(words) {
		n, ok := u32Of(word)
		if !ok {
			return nil, false
		}
		out = append(out, n)
	}
	return out, true
}

func groupsIn(words string) ([]impl.Group, bool) {
	var out []impl.Group
	sum := new(big.Int)
	fields := strings.Fields(words)
	for i := 0; i < len(fields); i += 2 {
		n, ok := u32Of(fields[i])
		if !ok {
			return nil, false
		}
		sum.Add(sum, big.NewInt(n))
		out = append(out, impl.Group{N: n, Type: typeWords()[fields[i+1]]})
	}
	return out, sum.BitLen() <= 32
}

func kindOf(word string) int64 {
	for kind, is := range kindWords() {
		if is == word {
			return int64(kind)
		}
	}
	return -1
}

func importOf(p []string) refPut {
	x := impl.Import{Kind: kindOf(strings.Fields(p[3])[0])}
	ok, okName, okRest := false, false, true
	x.Module, ok = nameOf(p[1])
	x.Name, okName = nameOf(p[2])
	switch x.Kind {
	case 0:
		x.Type, okRest = u32Of(p[4])
	case 1, 2:
		x.Lim, okRest = limitsOf(p[5], p[6])
	case 3:
		x.Global = impl.GlobalType{Type: typeWords()[p[8]], Mut: p[9] == "var"}
	}
	return putIf(ok && okName && okRest, func(m *impl.Module, _ []impl.Ins) { m.Imports = append(m.Imports, x) })
}

func whole(pattern string) *regexp.Regexp { return regexp.MustCompile(`\A(?s:` + pattern + `)\z`) }

func entryForms() []refForm {
	return []refForm{
		{whole(`type((?: ` + reType + `)*) ->((?: ` + reType + `)?)`), 1, func(p []string) refPut {
			return func(m *impl.Module, _ []impl.Ins) {
				m.Types = append(m.Types, impl.FuncType{Params: typesIn(p[1]), Results: typesIn(p[3])})
			}
		}},
		{whole(`import ` + reStr + ` ` + reStr + ` (func ` + reNum + `|(?:table|memory) ` + reNum + `( ` + reNum + `)?|global ` + reType + ` (const|var))`), 2, importOf},
		{whole(`func ` + reNum), 3, func(p []string) refPut {
			n, ok := u32Of(p[1])
			return putIf(ok, func(m *impl.Module, _ []impl.Ins) { m.Funcs = append(m.Funcs, n) })
		}},
		{whole(`table ` + reNum + `( ` + reNum + `)?`), 4, func(p []string) refPut {
			l, ok := limitsOf(p[1], p[2])
			return putIf(ok, func(m *impl.Module, _ []impl.Ins) { m.Tables = append(m.Tables, l) })
		}},
		{whole(`memory ` + reNum + `( ` + reNum + `)?`), 5, func(p []string) refPut {
			l, ok := limitsOf(p[1], p[2])
			return putIf(ok, func(m *impl.Module, _ []impl.Ins) { m.Mems = append(m.Mems, l) })
		}},
		{whole(`export ` + reStr + ` (func|table|memory|global) ` + reNum), 7, func(p []string) refPut {
			name, ok := nameOf(p[1])
			n, okIndex := u32Of(p[3])
			return putIf(ok && okIndex, func(m *impl.Module, _ []impl.Ins) {
				m.Exports = append(m.Exports, impl.Export{Name: name, Kind: kindOf(p[2]), Index: n})
			})
		}},
		{whole(`start ` + reNum), 8, func(p []string) refPut {
			n, ok := u32Of(p[1])
			return putIf(ok, func(m *impl.Module, _ []impl.Ins) { m.HasStart, m.Start = true, n })
		}},
	}
}

func listForms() []refForm {
	return []refForm{
		{whole(`global ` + reType + ` (const|var)`), 6, func(p []string) refPut {
			return func(m *impl.Module, list []impl.Ins) {
				m.Globals = append(m.Globals, impl.Global{Type: impl.GlobalType{Type: typeWords()[p[1]], Mut: p[2] == "var"}, Init: list})
			}
		}},
		{whole(`elem((?: ` + reNum + `)*)`), 9, func(p []string) refPut {
			funcs, ok := numbersIn(p[1])
			return putIf(ok, func(m *impl.Module, list []impl.Ins) {
				m.Elems = append(m.Elems, impl.Elem{Offset: list, Funcs: funcs})
			})
		}},
		{whole(`code((?: ` + reNum + ` ` + reType + `)*)`), 10, func(p []string) refPut {
			groups, ok := groupsIn(p[1])
			return putIf(ok, func(m *impl.Module, list []impl.Ins) {
				m.Codes = append(m.Codes, impl.Code{Locals: groups, Body: list})
			})
		}},
		{whole(`data ` + reStr), 11, func(p []string) refPut {
			return func(m *impl.Module, list []impl.Ins) {
				m.Datas = append(m.Datas, impl.Data{Offset: list, Bytes: []byte(strOf(p[1]))})
			}
		}},
	}
}

// insForms has what follows the name of an instruction, by its form.
func insForms() map[int64]*regexp.Regexp {
	return map[int64]*regexp.Regexp{
		0: whole(``), 6: whole(``), 1: whole(`(?: ` + reType + `)?`), 2: whole(` ` + reNum), 4: whole(` ` + reNum),
		3: whole(`((?: ` + reNum + `)*) ` + reNum), 5: whole(` ` + reNum + ` ` + reNum),
		7: whole(` ` + fmt.Sprintf(reSigned, 9)), 8: whole(` ` + fmt.Sprintf(reSigned, 18)),
		9: whole(` 0x([0-9a-f]{8})`), 10: whole(` 0x([0-9a-f]{16})`),
	}
}

// refText has what the reader of the tests needs for many texts.
type refText struct {
	custom  *regexp.Regexp
	entries []refForm
	lists   []refForm
	rests   map[int64]*regexp.Regexp
	ops     map[string]opWant
}

func newRefText() *refText {
	r := &refText{custom: whole(`custom ` + reNum + ` ` + reStr + ` ` + reStr), entries: entryForms(), lists: listForms(), rests: insForms(), ops: map[string]opWant{}}
	for _, w := range allOps() {
		r.ops[w.name] = w
	}
	return r
}

func (r *refText) ins(line string) (impl.Ins, bool) {
	word, _, _ := strings.Cut(line, " ")
	w, is := r.ops[word]
	if !is {
		return impl.Ins{}, false
	}
	p := r.rests[w.form].FindStringSubmatch(line[len(word):])
	if p == nil {
		return impl.Ins{}, false
	}
	x, ok, okL := impl.Ins{Op: w.op}, true, true
	switch w.form {
	case 1:
		x.A = 0x40
		if p[1] != "" {
			x.A = typeWords()[p[1]]
		}
	case 2, 4:
		x.A, ok = u32Of(p[1])
	case 3:
		x.L, okL = numbersIn(p[1])
		x.A, ok = u32Of(p[3])
	case 5:
		x.A, ok = u32Of(p[1])
		x.B, okL = u32Of(p[2])
	case 7:
		n := numberOf(p[1])
		x.V, ok = uint64(n)&0xffffffff, n >= -1<<31 && n < 1<<31
	case 8:
		n, _ := new(big.Int).SetString(p[1], 10)
		x.V, ok = uint64(n.Int64()), n.IsInt64()
	case 9, 10:
		x.V, _ = strconv.ParseUint(p[1], 16, 64)
	}
	if !ok || !okL {
		return impl.Ins{}, false
	}
	return x, true
}

// line is what a line says by itself; nil if it is of no form.
func (r *refText) line(line string) *refLine {
	word, _, _ := strings.Cut(line, " ")
	if x, ok := r.ins(line); ok {
		return &refLine{word: word, op: x.Op, ins: x}
	}
	if p := r.custom.FindStringSubmatch(line); p != nil {
		after, _ := u32Of(p[1])
		name, ok := nameOf(p[2])
		put := putIf(ok, func(m *impl.Module, _ []impl.Ins) {
			m.Customs = append(m.Customs, impl.Custom{After: after, Name: name, Bytes: []byte(strOf(p[3]))})
		})
		return (&refLine{word: word, op: -1, after: after, put: put}).fits()
	}
	for _, forms := range [][]refForm{r.entries, r.lists} {
		for _, f := range forms {
			if p := f.re.FindStringSubmatch(line); p != nil {
				return (&refLine{word: word, op: -1, section: f.section, put: f.read(p)}).fits()
			}
		}
	}
	return nil
}

func (l *refLine) fits() *refLine {
	if l.put == nil {
		return nil
	}
	return l
}

// refReading goes through the lines; wrong is the number of the first that
// cannot stand there.
type refReading struct {
	lines []*refLine // nil where a line is of no form
	wrong int
}

// block reads instructions from line i on, up to the end that ends them: the
// line behind it.
func (g *refReading) block(i int, mayElse bool) int {
	for g.wrong == 0 {
		if i == len(g.lines) || g.lines[i] == nil || g.lines[i].op < 0 {
			g.wrong = i + 1
			return i
		}
		switch g.lines[i].op {
		case 0x02, 0x03:
			i = g.block(i+1, false)
		case 0x04:
			i = g.block(i+1, true)
		case 0x05:
			if !mayElse {
				g.wrong = i + 1
			}
			mayElse = false
			i++
		case 0x0b:
			return i + 1
		default:
			i++
		}
	}
	return i
}

func (g *refReading) module() impl.Module {
	var m impl.Module
	section := 0
	for i := 0; i < len(g.lines) && g.wrong == 0; {
		l := g.lines[i]
		if l == nil || l.op >= 0 || l.word == "custom" && l.after != int64(section) || l.word != "custom" && l.section < section || l.word == "start" && m.HasStart {
			g.wrong = i + 1
			break
		}
		section = max(section, l.section)
		next := i + 1
		var list []impl.Ins
		switch l.word {
		case "global", "elem", "code", "data":
			next = g.block(i+1, false)
			for _, of := range g.lines[i+1 : next] {
				list = append(list, of.ins)
			}
		}
		l.put(&m, list)
		i = next
	}
	if g.wrong == 0 && len(m.Codes) != len(m.Funcs) {
		g.wrong = len(g.lines) + 1
	}
	return m
}

// parse is what ParseText is to answer for a text within TextMax.
func (r *refText) parse(text string) impl.TextRes {
	g := &refReading{}
	lines := strings.Split(text, "\n")
	for _, line := range lines[:len(lines)-1] {
		g.lines = append(g.lines, r.line(line))
	}
	if lines[len(lines)-1] != "" {
		g.lines = append(g.lines, nil)
	}
	m := g.module()
	if g.wrong != 0 {
		return impl.TextRes{Line: int64(g.wrong)}
	}
	return impl.TextRes{Module: m}
}
