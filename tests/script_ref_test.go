package tests

import (
	"bytes"
	"encoding/hex"
	"fmt"
	"math/big"
	"regexp"
	"slices"
	"strings"
	"testing"

	"loop.example/s00119/impl"
)

const (
	reScriptName = ` ([a-z]{1,20})`
	reScriptHex  = ` ((?:[0-9a-f][0-9a-f])+|-)`
	reScriptStr  = ` ([^ ]+)`
	reScriptNum  = `(?: (?:0|[1-9][0-9]{0,9}))`
	reScriptArg  = `(?: (?:0|[1-9][0-9]{0,19}))`
)

// refCommand is the form of a command's lines; the numbers at the end of one
// are at most most.
type refCommand struct {
	form *regexp.Regexp
	most string
	do   func(r *refScript, p []string, numbers []uint64) string
}

func scriptForms() []refCommand {
	args := `(` + reScriptArg + `*)`
	return []refCommand{
		{whole(`module` + reScriptName + reScriptHex + `()`), "", (*refScript).module},
		{whole(`link` + reScriptName + reScriptName + `()`), "", (*refScript).link},
		{whole(`call` + reScriptName + reScriptStr + args), "18446744073709551615", (*refScript).call},
		{whole(`flat` + reScriptName + reScriptStr + args), "18446744073709551615", (*refScript).flat},
		{whole(`global` + reScriptName + reScriptStr + `()`), "", (*refScript).global},
		{whole(`in(` + reScriptNum + `+)`), "4294967295", (*refScript).in},
		{whole(`out()`), "", (*refScript).out},
		{whole(`fuel(` + reScriptNum + `)`), "100000", (*refScript).setFuel},
		{whole(`text` + reScriptName + `()`), "", (*refScript).text},
	}
}

// scriptFormList is made once: to make it takes longer than most scripts.
var scriptFormList = scriptForms()

// refScript goes by the form of each line as a whole, and asks what the
// exported functions of the other layers say.
type refScript struct {
	store   impl.Store
	modules map[string]impl.Module
	insts   map[string]int64
	fuel    int64
}

func newRefScript() *refScript {
	return &refScript{impl.StoreNew(), map[string]impl.Module{}, map[string]int64{}, 10000}
}

// numbersUpTo reads numbers; false if one of them is above most.
func numbersUpTo(words, most string) ([]uint64, bool) {
	var out []uint64
	for _, word := range strings.Fields(words) {
		x, _ := new(big.Int).SetString(word, 10)
		top, _ := new(big.Int).SetString(most, 10)
		if x.Cmp(top) > 0 {
			return nil, false
		}
		out = append(out, x.Uint64())
	}
	return out, true
}

func (r *refScript) answer(line string) string {
	for _, c := range scriptFormList {
		if p := c.form.FindStringSubmatch(line); p != nil {
			numbers, right := numbersUpTo(p[len(p)-1], c.most)
			if !right {
				return "bad"
			}
			return c.do(r, p[1:], numbers)
		}
	}
	return "bad"
}

func (r *refScript) module(p []string, _ []uint64) string {
	b, _ := hex.DecodeString(strings.TrimPrefix(p[1], "-"))
	v := impl.Verdict(b, noCaps())
	if v.Kind != impl.VkAccept {
		return fmt.Sprint(map[int64]string{2: "malformed", 3: "invalid"}[v.Kind], " ", v.Code, " ", v.At)
	}
	r.modules[p[0]] = impl.Decode(b).Module
	return "accept"
}

func (r *refScript) extern(x impl.Import) impl.Extern {
	if x.Module == "host" {
		at := slices.Index([]string{"out32", "out64", "in", "fail"}, x.Name)
		return extern(int64(min(at, 0)), int64(max(at, 0)))
	}
	if inst, there := r.insts[x.Module]; there {
		return impl.Find(r.store, inst, x.Name)
	}
	return extern(-1, 0)
}

func (r *refScript) link(p []string, _ []uint64) string {
	if p[1] == "host" {
		return "bad"
	}
	m, there := r.modules[p[0]]
	if !there {
		return "none"
	}
	var with []impl.Extern
	for _, x := range m.Imports {
		with = append(with, r.extern(x))
	}
	if slices.Contains(with, extern(-1, 0)) {
		return "unknown"
	}
	made := impl.Instantiate(r.store, m, with)
	switch made.Err {
	case 0:
	case 7:
		return fmt.Sprint("7 ", made.Trap)
	default:
		return fmt.Sprint(made.Err)
	}
	r.store, r.insts[p[1]] = made.Store, made.Index
	if m.HasStart {
		if addr := r.store.Insts[made.Index].Funcs[m.Start]; addr >= 4 {
			return "0 " + r.ran(impl.Invoke(r.store, addr, nil, r.fuel))
		}
	}
	return "0"
}

func endWords(err, status, trap int64, results []uint64) string {
	switch {
	case err != 0:
		return fmt.Sprint("error ", err)
	case status == 1:
		return strings.TrimRight("done "+strings.Trim(fmt.Sprint(results), "[]"), " ")
	case status == 2:
		return fmt.Sprint("trap ", trap)
	}
	return "fuel"
}

func (r *refScript) ran(res impl.RunRes) string {
	if res.Err == 0 {
		r.store = res.Store
	}
	return endWords(res.Err, res.State.Status, res.State.Trap, res.State.Stack)
}

func (r *refScript) call(p []string, args []uint64) string {
	if inst, there := r.insts[p[0]]; there {
		return r.ran(impl.InvokeExport(r.store, inst, p[1], args, r.fuel))
	}
	return "none"
}

func (r *refScript) flat(p []string, args []uint64) string {
	inst, there := r.insts[p[0]]
	if !there {
		return "none"
	}
	x := impl.Find(r.store, inst, p[1])
	if x.Kind != 0 {
		return "error 2"
	}
	res := impl.RunFlat(r.store, x.Addr, args, r.fuel)
	return endWords(res.Err, res.Status, res.Trap, res.Results)
}

func (r *refScript) global(p []string, _ []uint64) string {
	if inst, there := r.insts[p[0]]; there {
		if x := impl.Find(r.store, inst, p[1]); x.Kind == 3 {
			return fmt.Sprint(r.store.Globals[x.Addr].Val)
		}
	}
	return "none"
}

func (r *refScript) in(_ []string, numbers []uint64) string {
	for _, v := range numbers {
		if len(r.store.In) < 1000 {
			r.store.In = append(slices.Clone(r.store.In), v)
		}
	}
	return "ok"
}

func (r *refScript) out([]string, []uint64) string {
	told := "told"
	for _, x := range r.store.Out {
		told += fmt.Sprintf(" %d:%d", x.Host, x.Val)
	}
	r.store.Out = nil
	return told
}

func (r *refScript) setFuel(_ []string, numbers []uint64) string {
	r.fuel = int64(numbers[0])
	return "ok"
}

func (r *refScript) text(p []string, _ []uint64) string {
	if m, there := r.modules[p[0]]; there {
		return fmt.Sprint(strings.Count(string(impl.PrintText(m)), "\n"))
	}
	return "none"
}

// linesOf are those of a text; the last may be without its newline.
func linesOf(text string) []string {
	lines := strings.Split(text, "\n")
	if lines[len(lines)-1] == "" {
		lines = lines[:len(lines)-1]
	}
	return lines
}

func wantScript(text string) []string {
	r := newRefScript()
	answers := []string{}
	for _, line := range linesOf(text) {
		answers = append(answers, r.answer(line))
	}
	return answers
}

// checkAnyScript holds RunScript against the other one of the tests, line by
// line, and has the answers.
func checkAnyScript(t *testing.T, text string) []string {
	t.Helper()
	given := []byte(text)
	out := impl.RunScript(given)
	if !bytes.Equal(given, []byte(text)) {
		t.Fatalf("%q: the argument was written to", text)
	}
	got, want, lines := linesOf(string(out)), wantScript(text), linesOf(text)
	if len(out) > 0 && out[len(out)-1] != '\n' || len(got) != len(lines) {
		t.Fatalf("%q: %d lines answered by %d: %q", text, len(lines), len(got), out)
	}
	for i, line := range lines {
		if got[i] != want[i] {
			t.Fatalf("line %d, %.300q: %q, want %q, in %q", i+1, line, got[i], want[i], text)
		}
	}
	return got
}
