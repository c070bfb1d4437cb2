package tests

import (
	"cmp"
	"slices"

	"loop.example/s00119/impl"
)

// sight is a fault that shows when so many bytes have been read; among those of
// one byte the lower class counts, and then the lower code.
type sight struct {
	at    int64
	class int64
	code  int64
}

// The classes in the order of chapter 7; what only the end of the bytes shows
// comes behind all that a byte shows.
const (
	ofBytes = iota
	ofCaps
	ofTypes
	ofEnd
)

// wrongPlace is where something invalid stands: order is 0 for a whole entry
// and for the mark of a segment, one more than its number for an instruction,
// and 1<<40 and more for the functions of elements.
type wrongPlace struct {
	section int64
	index   int64
	order   int64
}

// stream puts together, out of what the machine has noted, the module as far as
// it goes, and where each of its items ends.
type stream struct {
	b     []byte
	m     impl.Module
	ends  map[wrongPlace]int64
	sees  []sight
	lim   impl.Caps
	elems int64
	sum   int64 // locals of the function whose body is read
	last  int64 // the N that was read last
}

func (s *stream) over(code, n, most, at int64) {
	if n > most {
		s.sees = append(s.sees, sight{at, ofCaps, code})
	}
}

// onlyEntry is the module that has an entry and nothing else.
func onlyEntry(section int64, entry []byte) impl.Module {
	content := entry
	if section != 8 {
		content = slices.Concat([]byte{1}, entry)
	}
	b := slices.Concat([]byte(headBytes), shortest().section(section, content))
	if section == 3 { // it is not read without its code
		b = append(b, 0x0a, 4, 1, 2, 0, 0x0b)
	}
	return impl.Decode(b).Module
}

// counts has how many there are of what the caps 1 to 5 are for.
func counts(m impl.Module) [5]int {
	s := spacesOf(m)
	return [5]int{len(m.Types), len(m.Imports), len(s.funcs), len(s.globals), len(m.Exports)}
}

func (s *stream) entry(n note) {
	one := onlyEntry(n.section, s.b[n.n:n.at])
	index := map[int64]int{1: len(s.m.Types), 2: len(s.m.Imports), 3: len(s.m.Funcs), 4: len(s.m.Tables), 5: len(s.m.Mems), 6: len(s.m.Globals), 7: len(s.m.Exports)}[n.section]
	s.ends[wrongPlace{n.section, int64(index), 0}] = n.at
	before := counts(s.m)
	s.m.Types = append(s.m.Types, one.Types...)
	s.m.Imports = append(s.m.Imports, one.Imports...)
	s.m.Funcs = append(s.m.Funcs, one.Funcs...)
	s.m.Tables = append(s.m.Tables, one.Tables...)
	s.m.Mems = append(s.m.Mems, one.Mems...)
	s.m.Globals = append(s.m.Globals, one.Globals...)
	s.m.Exports = append(s.m.Exports, one.Exports...)
	if one.HasStart {
		s.m.HasStart, s.m.Start = true, one.Start
	}
	most := [5]int64{s.lim.Types, s.lim.Imports, s.lim.Funcs, s.lim.Globals, s.lim.Exports}
	for i, count := range counts(s.m) {
		if count > before[i] {
			s.over(int64(i)+1, int64(count), most[i], n.at)
		}
	}
}

func (s *stream) ins(n note) {
	x := impl.DecodeIns(s.b, n.n).Ins
	var list *[]impl.Ins
	var index int
	switch n.section {
	case 9:
		index = len(s.m.Elems) - 1
		list = &s.m.Elems[index].Offset
	case 10:
		index = len(s.m.Codes) - 1
		list = &s.m.Codes[index].Body
	case 11:
		index = len(s.m.Datas) - 1
		list = &s.m.Datas[index].Offset
	default:
		return
	}
	*list = append(*list, x)
	s.ends[wrongPlace{n.section, int64(index), int64(len(*list))}] = n.at
}

func (s *stream) segment(n note) {
	if n.section == 9 {
		s.m.Elems = append(s.m.Elems, impl.Elem{})
		s.ends[wrongPlace{9, int64(len(s.m.Elems) - 1), 0}] = n.at
		return
	}
	s.m.Datas = append(s.m.Datas, impl.Data{})
	s.ends[wrongPlace{11, int64(len(s.m.Datas) - 1), 0}] = n.at
}

func (s *stream) elem(n note) {
	last := len(s.m.Elems) - 1
	e := &s.m.Elems[last]
	s.ends[wrongPlace{9, int64(last), 1<<40 + int64(len(e.Funcs))}] = n.at
	e.Funcs = append(e.Funcs, n.n)
	s.elems++
	s.over(10, s.elems, s.lim.Elems, n.at)
}

func (s *stream) groups(n note) {
	s.sum = 0
	if ty := s.m.Funcs[len(s.m.Codes)]; ty < int64(len(s.m.Types)) {
		s.sum = int64(len(s.m.Types[ty].Params))
	}
	s.m.Codes = append(s.m.Codes, impl.Code{})
	s.over(6, s.sum, s.lim.Locals, n.at)
}

func (s *stream) take(n note) {
	switch n.what {
	case "name":
		s.over(9, n.n, s.lim.Name, n.at)
	case "block":
		s.over(7, n.n, s.lim.Depth, n.at)
	case "labels":
		s.over(8, n.n, s.lim.Labels, n.at)
	case "entry":
		s.entry(n)
	case "ins":
		s.ins(n)
	case "segment":
		s.segment(n)
	case "elem":
		s.elem(n)
	case "groups":
		s.groups(n)
	case "locals":
		s.sum += n.n
		s.last = n.n
		s.over(6, s.sum, s.lim.Locals, n.at)
	case "group":
		code := &s.m.Codes[len(s.m.Codes)-1]
		code.Locals = append(code.Locals, impl.Group{N: s.last, Type: int64(s.b[n.at-1])})
	}
}

// finish makes a module that is well formed out of what there is. What it adds
// has no place in the bytes, so whatever is wrong with that is not seen.
func (s *stream) finish() {
	for i, e := range s.m.Elems {
		s.m.Elems[i].Offset = closedBody(e.Offset)
	}
	for i, d := range s.m.Datas {
		s.m.Datas[i].Offset = closedBody(d.Offset)
	}
	for i, c := range s.m.Codes {
		s.m.Codes[i].Body = closedBody(c.Body)
	}
	for len(s.m.Codes) < len(s.m.Funcs) {
		s.m.Codes = append(s.m.Codes, impl.Code{Body: insList(0x00, 0x0b)})
	}
}

func (s *stream) types() {
	wrong := firstWrong(s.m)
	place := wrongPlace{wrong.Section, wrong.Index, wrong.order}
	if wrong.Section < 9 {
		place.order = 0
	}
	if at, ok := s.ends[place]; ok && wrong.Err != 0 {
		s.sees = append(s.sees, sight{at, ofTypes, wrong.Err})
	}
}

// sightOf has the fault of a text that counts, with 0 as its code if there is
// none. It knows all faults there are up to the first of the bytes, and takes
// the one that shows first.
func sightOf(b []byte, lim impl.Caps) sight {
	most := b[:min(len(b), 65536)]
	k := newMachine()
	for _, c := range most {
		k.feed(c)
	}
	end := k.now()
	s := stream{b: most, lim: lim, ends: map[wrongPlace]int64{}}
	for _, n := range k.notes {
		s.take(n)
	}
	s.finish()
	s.types()
	switch {
	case k.fault.err != 0:
		s.sees = append(s.sees, sight{k.fault.at, ofBytes, k.fault.err})
	case len(b) > 65536:
		s.sees = append(s.sees, sight{65537, ofBytes, impl.BinLong})
	default:
		s.sees = append(s.sees, sight{int64(len(b)), ofEnd, end.err})
	}
	return slices.MinFunc(s.sees, func(a, b sight) int {
		return cmp.Or(cmp.Compare(a.at, b.at), cmp.Compare(a.class, b.class), cmp.Compare(a.code, b.code))
	})
}

func (s sight) verdict() impl.VerdictRes {
	kind := []int64{impl.VkMalformed, impl.VkCap, impl.VkInvalid, impl.VkMalformed}[s.class]
	if s.code == 0 {
		kind = impl.VkAccept
	}
	return impl.VerdictRes{Kind: kind, Code: s.code, At: s.at}
}

// after is what Feed has to say when so many bytes have come in.
func (s sight) after(bytes int64) impl.VerdictRes {
	if s.class == ofEnd || bytes < s.at {
		return impl.VerdictRes{}
	}
	return s.verdict()
}
