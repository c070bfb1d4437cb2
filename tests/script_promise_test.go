package tests

import (
	"fmt"
	"maps"
	"slices"
	"strings"
	"testing"

	"loop.example/s00119/impl"
)

// scriptMaker goes on with a script line by line, along with the other one of
// the tests, which knows what there is.
type scriptMaker struct {
	maker
	ref  *refScript
	text string
	seen map[string]int
}

// place is what exports something: an instance's name and the export's.
type place struct{ inst, name string }

// places has all that export what stands at an address.
func (k *scriptMaker) places(x impl.Extern) []place {
	var out []place
	if x.Kind == 0 && x.Addr < 4 {
		out = append(out, place{"host", []string{"out32", "out64", "in", "fail"}[x.Addr]})
	}
	for _, inst := range slices.Sorted(maps.Keys(k.ref.insts)) {
		for _, e := range k.ref.store.Insts[k.ref.insts[inst]].Exports {
			if extern(e.Kind, e.Index) == x {
				out = append(out, place{inst, e.Name})
			}
		}
	}
	return out
}

// linkable is a module for what the store has, which is mostly found by name.
func (k *scriptMaker) linkable() impl.Module {
	m, with := k.linkModule(k.ref.store)
	if k.Intn(2) == 0 {
		m, with = k.runModule(), []impl.Extern{extern(0, 0), extern(0, 1), extern(0, 2), extern(0, 3)}
	}
	for i, x := range with {
		at := place{"nobody", "nothing"}
		if all := k.places(x); len(all) > 0 {
			at = pick(k.maker, all)
		}
		m.Imports[i].Module, m.Imports[i].Name = at.inst, at.name
	}
	s := spacesOf(m)
	for kind, n := range []int64{int64(len(s.funcs)), s.tables, s.mems, int64(len(s.globals))} {
		for i := range n {
			m.Exports = append(m.Exports, impl.Export{Name: fmt.Sprintf("%d%d", kind, i), Kind: int64(kind), Index: i})
		}
	}
	for i, ty := range s.funcs {
		if same(m.Types[ty], impl.FuncType{}) && k.Intn(4) == 0 {
			m.HasStart, m.Start = true, int64(i)
		}
	}
	if k.Intn(25) == 0 && len(m.Codes) > 0 {
		m.Codes[0].Locals = append(m.Codes[0].Locals, impl.Group{N: 1001, Type: 0x7f})
	}
	return m
}

// digits are those of a module's bytes, or of such that are near to one.
func (k *scriptMaker) digits() string {
	m := k.linkable()
	switch k.Intn(10) {
	case 0:
		m = spoiled(k.maker, m)
	case 1:
		return fmt.Sprintf("%x", k.changed(impl.Encode(m)))
	}
	if b := impl.Encode(m); len(b) > 0 {
		return fmt.Sprintf("%x", b)
	}
	return "-"
}

func (k *scriptMaker) oneOf(names []string) string {
	if len(names) > 0 && k.Intn(12) > 0 {
		return pick(k.maker, names)
	}
	return pick(k.maker, []string{"a", "b", "c", "d", "host", "nobody"})
}

func (k *scriptMaker) moduleName() string { return k.oneOf(slices.Sorted(maps.Keys(k.ref.modules))) }

func (k *scriptMaker) instName() string { return k.oneOf(slices.Sorted(maps.Keys(k.ref.insts))) }

// exportOf is one of an instance, mostly of a kind.
func (k *scriptMaker) exportOf(inst string, kind int64) impl.Export {
	number, there := k.ref.insts[inst]
	if !there {
		return impl.Export{Name: "nothing", Kind: 3}
	}
	all := k.ref.store.Insts[number].Exports
	some := slices.DeleteFunc(slices.Clone(all), func(e impl.Export) bool { return e.Kind != kind })
	switch {
	case k.Intn(12) == 0 || len(all) == 0:
		return impl.Export{Name: "nothing", Kind: 3}
	case len(some) > 0 && k.Intn(8) > 0:
		return pick(k.maker, some)
	}
	return pick(k.maker, all)
}

// run is a call or a flat run, mostly with arguments that fit.
func (k *scriptMaker) run() string {
	inst := k.instName()
	e := k.exportOf(inst, 0)
	var args []uint64
	if e.Kind == 0 {
		args = k.values(k.ref.store.Funcs[e.Index].Type.Params)
	}
	if k.Intn(15) == 0 {
		args = spoiled(k.maker, args)
	}
	line := pick(k.maker, []string{"call ", "flat "}) + inst + " " + e.Name
	for _, v := range args {
		line += fmt.Sprint(" ", v)
	}
	return line
}

func (k *scriptMaker) numbers() string {
	line := "in"
	for range 1 + k.Intn(4) {
		line += fmt.Sprint(" ", k.value(0x7f))
	}
	return line
}

func (k *scriptMaker) line() string {
	switch k.Intn(24) {
	case 0, 1, 2:
		return "module " + pick(k.maker, []string{"a", "b", "c", "host"}) + " " + k.digits()
	case 3, 4, 5, 6:
		return "link " + k.moduleName() + " " + pick(k.maker, []string{"a", "b", "c", "d", "e"})
	case 7, 8:
		inst := k.instName()
		return "global " + inst + " " + k.exportOf(inst, 3).Name
	case 9, 10:
		return k.numbers()
	case 11, 12:
		return "out"
	case 13:
		return fmt.Sprint("fuel ", pick(k.maker, []int{0, 1, 5, 20, 100, 1000, 100000, 100001}))
	case 14:
		return "text " + k.moduleName()
	}
	return k.run()
}

// seenAs is a command with the kind of its answer.
func seenAs(line, answer string) string {
	command, _, _ := strings.Cut(line, " ")
	word, more, _ := strings.Cut(answer, " ")
	switch {
	case answer == "bad":
		return answer
	case command == "link" && word == "0" && strings.HasPrefix(more, "trap"):
		return "link 0 trap"
	case command == "link" || word == "error":
		return command + " " + answer
	case command == "global" && answer != "none" || command == "text" && answer != "none":
		return command
	case more != "":
		return command + " " + word + " .."
	}
	return command + " " + answer
}

// put takes a line; false if there is no room for it any more.
func (k *scriptMaker) put(line string) bool {
	if len(k.text)+len(line) >= impl.ScriptMax {
		return false
	}
	k.text += line + "\n"
	for _, part := range strings.Split(line, "\n") {
		k.seen[seenAs(part, k.ref.answer(part))]++
	}
	return true
}

// TestScriptPromise makes many scripts, of which most lines are right.
func TestScriptPromise(t *testing.T) {
	t.Parallel()
	seen := map[string]int{}
	for seed := range int64(120) {
		k := scriptMaker{maker: newMaker(1300 + seed), ref: newRefScript(), seen: seen}
		for room := true; room; {
			line := k.line()
			if k.Intn(12) == 0 {
				line = k.changedLine(line)
			}
			room = k.put(line)
		}
		checkAnyScript(t, k.text)
		if !impl.ValidStore(k.ref.store) {
			t.Fatalf("the store is not valid any more: %s", k.text)
		}
	}
	t.Logf("seen: %v", seen)
	for _, want := range []string{"bad", "module accept", "module malformed ..", "module invalid ..", "link none", "link unknown", "link 0", "link 0 done", "link 0 trap", "link 0 fuel", "link 2", "link 5", "link 6", "link 7 5", "link 7 6",
		"call none", "call done", "call done ..", "call trap ..", "call fuel", "call error 2", "call error 3", "flat none", "flat done", "flat done ..", "flat trap ..", "flat fuel", "flat error 2", "flat error 3",
		"global", "global none", "in ok", "out told", "out told ..", "fuel ok", "text", "text none"} {
		if seen[want] < 2 {
			t.Errorf("%q was seen %d times", want, seen[want])
		}
	}
}

// TestScriptSpoiled changes scripts anywhere.
func TestScriptSpoiled(t *testing.T) {
	t.Parallel()
	k := newMaker(131)
	start := withModules("module lib $lib\nmodule use $use\nlink lib lib\nlink use u\nin 5 6\ncall u twice\nflat u twice\ncall lib ask\ncall lib tell 4\nout\nfuel 50\ncall lib spin\nglobal u h\ntext use\nflat lib drain 2\ncall lib poke 1 2\ncall lib peek 1\n")
	for range 1500 {
		text := start
		for range 1 + k.Intn(5) {
			text = k.changedText(text)
		}
		checkAnyScript(t, text)
	}
}

// TestScriptAnyBytes: texts of any bytes, and of words that stand in scripts.
func TestScriptAnyBytes(t *testing.T) {
	t.Parallel()
	k := newMaker(132)
	words := []string{"module", "link", "call", "flat", "global", "in", "out", "fuel", "text", "a", "b", "host", "out32", "-", "0", "1", "01", "00", "4294967296", "10000000000", hexOf(impl.Module{}), hexOf(moduleOf(scriptModules()["fresh"])), "g", "", "é", "\xff", "A"}
	for range 20000 {
		var text strings.Builder
		for range k.Intn(12) {
			text.WriteString(pick(k, words) + pick(k, []string{" ", " ", " ", "\n", "  ", "\n\n"}))
		}
		checkAnyScript(t, text.String())
	}
	for range 2000 {
		b := make([]byte, k.Intn(200))
		for i := range b {
			b[i] = pick(k, []byte{byte(k.Intn(256)), '\n', ' ', 'a', '0'})
		}
		checkAnyScript(t, string(b))
	}
}

// TestScriptShort: all lines of up to four fields from some words.
func TestScriptShort(t *testing.T) {
	t.Parallel()
	words := []string{"module", "link", "call", "flat", "global", "in", "out", "fuel", "text", "a", "-", "0", "01", "host", "A", ""}
	lines := [][]string{{}}
	for range 4 {
		var longer [][]string
		for _, line := range lines {
			for _, word := range words {
				longer = append(longer, append(slices.Clone(line), word))
			}
		}
		lines = longer
		for part := range slices.Chunk(lines, 500) {
			text := ""
			for _, line := range part {
				text += strings.Join(line, " ") + "\n"
			}
			checkAnyScript(t, text)
		}
	}
}

// TestScriptAgain: nothing is kept from one script to the next, and each answer
// is new memory.
func TestScriptAgain(t *testing.T) {
	text := []byte(withModules("module lib $lib\nlink lib lib\nin 5 6\nfuel 50\ncall lib ask\ncall lib bump\ncall lib tell 4\nglobal lib g\n"))
	first := impl.RunScript(text)
	kept := slices.Clone(first)
	second := impl.RunScript(text)
	checkApart(t, text, first, second)
	if !slices.Equal(second, kept) {
		t.Errorf("%q, then %q", kept, second)
	}
	clear(second)
	clear(text)
	if !slices.Equal(first, kept) {
		t.Errorf("an answer hangs on its argument, or on another answer")
	}
	checkAnswers(t, "text lib\ncall lib bump\nout\nlink lib lib", "none", "none", "told", "none")
}
