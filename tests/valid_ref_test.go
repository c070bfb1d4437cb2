package tests

import (
	"cmp"
	"slices"
	"strings"

	"loop.example/s00119/impl"
)

// letters has the types of a list, one letter each.
func letters(types []int64) string {
	var out strings.Builder
	for _, ty := range types {
		out.WriteByte("iIfF"[0x7f-ty])
	}
	return out.String()
}

// typesOf is the list that has these letters.
func typesOf(text string) []int64 {
	var out []int64
	for _, c := range text {
		out = append(out, 0x7f-int64(strings.IndexRune("iIfF", c)))
	}
	return out
}

// stackCase is one of the stacks that a block may have: these types, and below
// them whatever is wanted if open holds.
type stackCase struct {
	open  bool
	types string
}

// stackCases has all of them. No type is ever unknown here: where the document
// leaves one open, there is a case for each.
type stackCases map[stackCase]bool

// without has what is left of the cases that have these types on top.
func (s stackCases) without(types string) stackCases {
	out := stackCases{}
	for c := range s {
		n := min(len(types), len(c.types))
		top := c.types[len(c.types)-n:]
		if strings.HasSuffix(types, top) && (n == len(types) || c.open) {
			out[stackCase{c.open, c.types[:len(c.types)-n]}] = true
		}
	}
	return out
}

func (s stackCases) with(types string) stackCases {
	out := stackCases{}
	for c := range s {
		out[stackCase{c.open, c.types + types}] = true
	}
	return out
}

func (s stackCases) and(more stackCases) stackCases {
	out := stackCases{}
	for c := range s {
		out[c] = true
	}
	for c := range more {
		out[c] = true
	}
	return out
}

// ended has the cases of a block at its end that give just these results.
func (s stackCases) ended(results string) stackCases {
	out := stackCases{}
	for c := range s.without(results) {
		if c.types == "" {
			out[c] = true
		}
	}
	return out
}

// one is any of the cases: they differ in types that are left open alone.
func (s stackCases) one() stackCase {
	for c := range s {
		return c
	}
	return stackCase{}
}

type refBlock struct {
	label   string
	results string
	bare    bool // an if that has had no else
	cases   stackCases
}

// refSpaces has the index spaces of a whole module.
type refSpaces struct {
	types   []impl.FuncType
	funcs   []int64 // numbers of types
	tables  int64
	mems    int64
	globals []impl.GlobalType
}

func spacesOf(m impl.Module) refSpaces {
	s := refSpaces{types: m.Types}
	for _, x := range m.Imports {
		switch x.Kind {
		case 0:
			s.funcs = append(s.funcs, x.Type)
		case 1:
			s.tables++
		case 2:
			s.mems++
		case 3:
			s.globals = append(s.globals, x.Global)
		}
	}
	s.funcs = append(s.funcs, m.Funcs...)
	s.tables += int64(len(m.Tables))
	s.mems += int64(len(m.Mems))
	for _, g := range m.Globals {
		s.globals = append(s.globals, g.Type)
	}
	return s
}

// refBody goes through a body by cases of stacks.
type refBody struct {
	refSpaces
	params  []int64
	groups  []impl.Group
	results string
	blocks  []refBlock
	wants   map[int64]opWant
}

// refWants has the document's rows by opcode.
func refWants() map[int64]opWant {
	out := map[int64]opWant{}
	for _, w := range allOps() {
		out[w.op] = w
	}
	return out
}

var refTable = refWants()

func newRefBody(m impl.Module, code int64) *refBody {
	s := spacesOf(m)
	own := len(s.funcs) - len(m.Funcs) + int(code)
	ty := s.types[s.funcs[own]]
	r := &refBody{refSpaces: s, params: ty.Params, groups: m.Codes[code].Locals, results: letters(ty.Results), wants: refTable}
	r.open(r.results, r.results, false)
	return r
}

func (r *refBody) clone() *refBody {
	out := *r
	out.blocks = slices.Clone(r.blocks)
	return &out
}

func (r *refBody) open(label, results string, bare bool) {
	r.blocks = append(r.blocks, refBlock{label, results, bare, stackCases{{}: true}})
}

func (r *refBody) top() *refBlock { return &r.blocks[len(r.blocks)-1] }

func (r *refBody) labelOf(n int64) string { return r.blocks[len(r.blocks)-1-int(n)].label }

// local is the letter of a local, empty if there is none.
func (r *refBody) local(n int64) string {
	if n < int64(len(r.params)) {
		return letters(r.params[n : n+1])
	}
	n -= int64(len(r.params))
	for _, g := range r.groups {
		if n < g.N {
			return letters([]int64{g.Type})
		}
		n -= g.N
	}
	return ""
}

// there tells whether everything is there that x names.
func (r *refBody) there(x impl.Ins) bool {
	w := r.wants[x.Op]
	switch {
	case w.form == 5 || w.form == 6:
		return r.mems > 0
	case strings.HasPrefix(w.name, "br"):
		return slices.Max(append(slices.Clone(x.L), x.A)) < int64(len(r.blocks))
	case w.name == "call":
		return x.A < int64(len(r.funcs))
	case w.name == "call_indirect":
		return r.tables > 0 && x.A < int64(len(r.types))
	case strings.HasPrefix(w.name, "local."):
		return r.local(x.A) != ""
	case strings.HasPrefix(w.name, "global."):
		return x.A < int64(len(r.globals))
	}
	return true
}

// widthOf is the number of bytes that a load or store of this name reaches.
func widthOf(name string) int64 {
	for _, row := range []struct {
		word  string
		bytes int64
	}{{"8", 1}, {"16", 2}, {"load32", 4}, {"store32", 4}, {"64", 8}, {"32", 4}} {
		kind, rest, _ := strings.Cut(name, ".")
		if strings.Contains(rest, row.word) || row.bytes >= 4 && strings.Contains(kind, row.word) {
			return row.bytes
		}
	}
	return 0
}

// signature has what an instruction takes and gives that stays in its block.
func (r *refBody) signature(x impl.Ins) (takes, gives string) {
	switch x.Op {
	case 0x0d:
		return r.labelOf(x.A) + "i", r.labelOf(x.A)
	case 0x10, 0x11:
		number, on := x.A, "i"
		if x.Op == 0x10 {
			number, on = r.funcs[x.A], ""
		}
		return letters(r.types[number].Params) + on, letters(r.types[number].Results)
	case 0x20:
		return "", r.local(x.A)
	case 0x21:
		return r.local(x.A), ""
	case 0x22:
		return r.local(x.A), r.local(x.A)
	case 0x23, 0x24:
		ty := letters([]int64{r.globals[x.A].Type})
		if x.Op == 0x23 {
			return "", ty
		}
		return ty, ""
	}
	return letters(r.wants[x.Op].params), letters(r.wants[x.Op].results)
}

// away takes types along and leaves the block.
func (r *refBody) away(types string) bool {
	if len(r.top().cases.without(types)) == 0 {
		return false
	}
	r.top().cases = stackCases{{open: true}: true}
	return true
}

func (r *refBody) closing(op int64) bool {
	last := *r.top()
	if len(last.cases.ended(last.results)) == 0 || op == 0x0b && last.bare && last.results != "" {
		return false
	}
	r.blocks = r.blocks[:len(r.blocks)-1]
	if op == 0x05 {
		r.open(last.results, last.results, false)
	} else if len(r.blocks) > 0 {
		r.top().cases = r.top().cases.with(last.results)
	}
	return true
}

func (r *refBody) opening(x impl.Ins) {
	results := ""
	if x.A != 0x40 {
		results = letters([]int64{x.A})
	}
	label := results
	if x.Op == 0x03 {
		label = ""
	}
	r.open(label, results, x.Op == 0x04)
}

// become tells whether a case is left.
func (r *refBody) become(cases stackCases) bool {
	r.top().cases = cases
	return len(cases) > 0
}

// typed tells whether the types of x fit.
func (r *refBody) typed(x impl.Ins) bool {
	now := r.top().cases
	switch x.Op {
	case 0x00:
		return r.away("")
	case 0x02, 0x03:
		r.opening(x)
		return true
	case 0x04:
		ok := r.become(now.without("i"))
		r.opening(x)
		return ok
	case 0x05, 0x0b:
		return r.closing(x.Op)
	case 0x0c:
		return r.away(r.labelOf(x.A))
	case 0x0e:
		for _, n := range x.L {
			if r.labelOf(n) != r.labelOf(x.A) {
				return false
			}
		}
		return r.away(r.labelOf(x.A) + "i")
	case 0x0f:
		return r.away(r.results)
	case 0x1a, 0x1b:
		left := stackCases{}
		for _, c := range "iIfF" {
			one := string(c)
			if x.Op == 0x1a {
				left = left.and(now.without(one))
			} else {
				left = left.and(now.without(one + one + "i").with(one))
			}
		}
		return r.become(left)
	}
	takes, gives := r.signature(x)
	return r.become(now.without(takes).with(gives))
}

// step has the Err of an instruction; behind one the body is of no use.
func (r *refBody) step(x impl.Ins) int64 {
	switch {
	case !r.there(x):
		return impl.VaIndex
	case r.wants[x.Op].form == 5 && (x.A > 3 || int64(1)<<x.A > widthOf(r.wants[x.Op].name)):
		return impl.VaAlign
	case x.Op == 0x24 && !r.globals[x.A].Mut:
		return impl.VaMut
	case !r.typed(x):
		return impl.VaType
	}
	return 0
}

// stack is what StackAt has to say of the place that has been come to.
func (r *refBody) stack() impl.StackRes {
	all := ""
	for _, b := range r.blocks {
		c := b.cases.one()
		if c.open {
			return impl.StackRes{Ok: true, Dead: true}
		}
		all += c.types
	}
	return impl.StackRes{Ok: true, Types: typesOf(all)}
}

// refFault is something that is wrong; among those of one entry the lowest
// order counts.
type refFault struct {
	impl.ValRes
	order int64
}

// refFaults gathers all that is wrong with the entries of a module.
type refFaults struct {
	m    impl.Module
	s    refSpaces
	list []refFault
}

func (f *refFaults) add(wrong bool, err, section int64, index int, pos, order int64) {
	if wrong {
		f.list = append(f.list, refFault{impl.ValRes{Err: err, Section: section, Index: int64(index), Pos: pos}, order})
	}
}

func limitsWrong(l impl.Limits, most int64) bool {
	return l.HasMax && l.Min > l.Max || max(l.Min, l.Max) > most
}

func (f *refFaults) imports() {
	tables, mems := 0, 0
	for i, x := range f.m.Imports {
		switch x.Kind {
		case 0:
			f.add(x.Type >= int64(len(f.m.Types)), impl.VaIndex, 2, i, 0, 0)
		case 1:
			tables++
			f.add(limitsWrong(x.Lim, 1<<32), impl.VaLimits, 2, i, 0, 0)
			f.add(tables > 1, impl.VaMany, 2, i, 0, 1)
		case 2:
			mems++
			f.add(limitsWrong(x.Lim, 65536), impl.VaLimits, 2, i, 0, 0)
			f.add(mems > 1, impl.VaMany, 2, i, 0, 1)
		}
	}
	for i, n := range f.m.Funcs {
		f.add(n >= int64(len(f.m.Types)), impl.VaIndex, 3, i, 0, 0)
	}
	for i, l := range f.m.Tables {
		f.add(limitsWrong(l, 1<<32), impl.VaLimits, 4, i, 0, 0)
		f.add(tables+i > 0, impl.VaMany, 4, i, 0, 1)
	}
	for i, l := range f.m.Mems {
		f.add(limitsWrong(l, 65536), impl.VaLimits, 5, i, 0, 0)
		f.add(mems+i > 0, impl.VaMany, 5, i, 0, 1)
	}
}

// constant has the faults of a list; the order of an instruction is 1 more
// than its number.
func (f *refFaults) constant(list []impl.Ins, want int64, section int64, index int) {
	var outer []impl.GlobalType
	for _, x := range f.m.Imports {
		if x.Kind == 3 {
			outer = append(outer, x.Global)
		}
	}
	gives := map[int64]int64{0x41: 0x7f, 0x42: 0x7e, 0x43: 0x7d, 0x44: 0x7c}
	last := int64(len(list) - 1)
	var first int64
	for pos, x := range list[:last] {
		ty, is := gives[x.Op], gives[x.Op] != 0
		mine := x.Op == 0x23 && x.A < int64(len(outer))
		if mine {
			ty, is = outer[x.A].Type, !outer[x.A].Mut
		}
		f.add(x.Op == 0x23 && !mine, impl.VaIndex, section, index, int64(pos), int64(pos)+1)
		f.add(!is, impl.VaConst, section, index, int64(pos), int64(pos)+1)
		if pos == 0 {
			first = ty
		}
	}
	f.add(last != 1 || first != want, impl.VaType, section, index, last, last+1)
}

func (f *refFaults) exports() {
	sizes := []int64{int64(len(f.s.funcs)), f.s.tables, f.s.mems, int64(len(f.s.globals))}
	for i, x := range f.m.Exports {
		same := func(y impl.Export) bool { return y.Name == x.Name }
		f.add(slices.ContainsFunc(f.m.Exports[:i], same), impl.VaName, 7, i, 0, 0)
		f.add(x.Index >= sizes[x.Kind], impl.VaIndex, 7, i, 0, 1)
	}
	if !f.m.HasStart {
		return
	}
	none := f.m.Start >= sizes[0]
	f.add(none, impl.VaIndex, 8, 0, 0, 0)
	if !none && f.s.funcs[f.m.Start] < int64(len(f.s.types)) {
		ty := f.s.types[f.s.funcs[f.m.Start]]
		f.add(len(ty.Params)+len(ty.Results) > 0, impl.VaType, 8, 0, 0, 0)
	}
}

func (f *refFaults) segments() {
	for i, e := range f.m.Elems {
		f.add(f.s.tables == 0, impl.VaIndex, 9, i, 0, 0)
		f.constant(e.Offset, 0x7f, 9, i)
		for j, n := range e.Funcs {
			f.add(n >= int64(len(f.s.funcs)), impl.VaIndex, 9, i, 0, 1<<40+int64(j))
		}
	}
	for i, d := range f.m.Datas {
		f.add(f.s.mems == 0, impl.VaIndex, 11, i, 0, 0)
		f.constant(d.Offset, 0x7f, 11, i)
	}
}

// bodies is asked only where all that bodies may name is as it should be.
func (f *refFaults) bodies() {
	for i, c := range f.m.Codes {
		r := newRefBody(f.m, int64(i))
		for pos, x := range c.Body {
			if err := r.step(x); err != 0 {
				f.add(true, err, 10, i, int64(pos), int64(pos)+1)
				break
			}
		}
	}
}

// least is the fault that comes first, the zero value if there is none.
func (f *refFaults) least() refFault {
	if len(f.list) == 0 {
		return refFault{}
	}
	return slices.MinFunc(f.list, func(a, b refFault) int {
		return cmp.Or(cmp.Compare(a.Section, b.Section), cmp.Compare(a.Index, b.Index), cmp.Compare(a.order, b.order))
	})
}

// wantValid is what Validate has to say.
func wantValid(m impl.Module) impl.ValRes {
	if !impl.WellFormed(m) {
		return impl.ValRes{Err: impl.VaForm}
	}
	return firstWrong(m).ValRes
}

// firstWrong gathers all faults of a module that is well formed, and takes the
// first one in the document's order.
func firstWrong(m impl.Module) refFault {
	f := refFaults{m: m, s: spacesOf(m)}
	f.imports()
	for i, g := range m.Globals {
		f.constant(g.Init, g.Type.Type, 6, i)
	}
	f.exports()
	f.segments()
	if first := f.least(); first.Err == 0 || first.Section > 10 {
		f.bodies()
	}
	return f.least()
}
