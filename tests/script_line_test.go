package tests

import (
	"fmt"
	"slices"
	"strings"
	"testing"

	"loop.example/s00119/impl"
)

// scriptWorld makes what the lines of these tests name.
const scriptWorld = "module lib $lib\nlink lib lib\nin 5 6 7\ncall lib tell 1\nfuel 500\n"

// scriptLook tells whether something of it has changed.
const scriptLook = "global lib g\ncall lib ask\nout\ntext lib\ntext other\ncall other f\ncall lib spin\nglobal lib g\n"

// checkBad: a line is bad where all that it names is there, and where nothing
// is, and leaves all as it was.
func checkBad(t *testing.T, lines ...string) {
	t.Helper()
	world, look := withModules(scriptWorld), strings.Join(checkAnyScript(t, withModules(scriptWorld+scriptLook)), "\n")
	for _, line := range lines {
		if strings.Contains(line, "\n") {
			t.Fatalf("%q is more than a line", line)
		}
		answers := checkAnyScript(t, world+line+"\n"+scriptLook)
		at := strings.Count(world, "\n")
		if answers[at] != "bad" || strings.Join(slices.Delete(slices.Clone(answers), at, at+1), "\n") != look {
			t.Errorf("%.200q: %q, and behind it %q", line, answers[at], answers[at+1:])
		}
		for text, want := range map[string]string{line + "\n": "bad\n", line + "\nout\n" + line + "\n": "bad\ntold\nbad\n"} {
			if got := string(impl.RunScript([]byte(text))); got != want {
				t.Errorf("%.200q where nothing is: %q", text, got)
			}
		}
	}
}

// checkRight: a line is not bad, whether what it names is there or not.
func checkRight(t *testing.T, lines ...string) {
	t.Helper()
	for _, line := range lines {
		for _, world := range []string{withModules(scriptWorld), ""} {
			answers := checkAnyScript(t, world+line+"\n"+scriptLook)
			if got := answers[strings.Count(world, "\n")]; got == "bad" {
				t.Errorf("%.200q is bad", line)
			}
		}
	}
}

// scriptFormRow is a line that is right, with as few fields as can be; whether
// numbers may follow, and whether its last field may have any bytes.
type scriptFormRow struct {
	line    string
	numbers bool
	open    bool
}

func scriptFormRows() []scriptFormRow {
	return []scriptFormRow{
		{"module other 0061736d01000000", false, false},
		{"module other -", false, false},
		{"link lib other", false, false},
		{"call lib bump", true, true},
		{"flat lib bump", true, true},
		{"global lib g", false, true},
		{"in 8", true, false},
		{"out", false, false},
		{"fuel 9", false, false},
		{"text lib", false, false},
	}
}

func TestScriptForms(t *testing.T) {
	t.Parallel()
	for _, r := range scriptFormRows() {
		checkRight(t, r.line)
		words := strings.Split(r.line, " ")
		bad := []string{" " + r.line, r.line + " ", "  " + r.line, r.line + "  ", "\t" + r.line, r.line + " \t", strings.ToUpper(r.line[:1]) + r.line[1:], "x" + r.line, strings.ToUpper(words[0]) + r.line[len(words[0]):]}
		for i := range words {
			less, more, empty := slices.Delete(slices.Clone(words), i, i+1), slices.Insert(slices.Clone(words), i+1, ""), slices.Clone(words)
			empty[i] = ""
			bad = append(bad, strings.Join(less, " "), strings.Join(words[:i], " "), strings.Join(more, " "), strings.Join(empty, " "))
		}
		for i, c := range r.line {
			for _, other := range []string{"\t", "  ", ",", "\r", "\x00", "\u00a0"} {
				if c == ' ' {
					bad = append(bad, r.line[:i]+other+r.line[i+1:])
				}
			}
		}
		for _, more := range []string{"x", "-", "lib", "", "00", "-1", "\xff", "0 ", " 0"} {
			bad = append(bad, r.line+" "+more)
		}
		for _, more := range []string{" 0", " 1 2"} {
			if r.numbers {
				checkRight(t, r.line+more)
			} else {
				bad = append(bad, r.line+more)
			}
		}
		for _, tail := range []string{"\r", "\x00", "\xff", "\t", "!"} {
			if r.open {
				checkRight(t, r.line+tail)
			} else {
				bad = append(bad, r.line+tail)
			}
		}
		checkBad(t, bad...)
	}
}

// TestScriptNoCommand: a word that is no command, and bytes that are no text.
func TestScriptNoCommand(t *testing.T) {
	t.Parallel()
	checkBad(t, "", " ", "  ", "\t", "\r", "fly", "modul", "modules a -", "mod a -", "Call lib bump", "CALL lib bump", "in32 1", "ou", "outs", "help", "#", "# out", "//", "-", "0", "lib", "module", "link", "call", "flat", "global", "in", "fuel", "text",
		"host", "host out32", "out32 1", "import a b", "invoke lib bump", "quit", "long", "bad", "\x00", "\xff", "\xff\xfe", "\xef\xbb\xbfout", "out\x00", "\x00out", "öut", "ｏut", "out\u00a0", "out\u2028", "in\u00a05", "\xc3", "out\r", "out\v", "\fout")
	for c := range 256 {
		if text := string([]byte{byte(c)}); c == '\n' {
			checkAnswers(t, text, "bad")
		} else {
			checkAnswers(t, text, "bad")
			checkAnswers(t, text+"\n", "bad")
			checkAnswers(t, "\n"+text, "bad", "bad")
			checkAnswers(t, "out"+text, "bad")
			checkAnswers(t, text+"out", "bad")
		}
	}
	checkAnswers(t, "out\n\nout\n\n\nout", "told", "bad", "told", "bad", "bad", "told")
	checkAnswers(t, "out\r\nout", "bad", "told")
}

func goodScriptNames() []string {
	return []string{"a", "z", "lib", "hos", "hosts", "module", "in", "out", "nine", "abcdefghijklmnopqrst", "zyxwvutsrqponmlkjihg"}
}

func badScriptNames() []string {
	return []string{"", "A", "Z", "aB", "Ab", "lib1", "1", "0", "a-b", "a_b", "a.b", "-", "`", "{", "@", "[", "lib\x00", "\xff", "é", "ａ", "abcdefghijklmnopqrstu", strings.Repeat("a", 21), strings.Repeat("a", 300), "a\tb", "lib\r"}
}

func TestScriptNames(t *testing.T) {
	t.Parallel()
	forms := []string{"module %s -", "module %s " + hexOf(impl.Module{}), "link %s other", "link lib %s", "call %s bump", "call %s bump 1", "global %s g", "text %s", "flat %s bump"}
	for _, form := range forms {
		for _, name := range goodScriptNames() {
			checkRight(t, fmt.Sprintf(form, name))
		}
		for _, name := range badScriptNames() {
			checkBad(t, fmt.Sprintf(form, name))
		}
		if form == "link lib %s" {
			checkBad(t, "link lib host", "link nothere host", "link host host")
		} else {
			checkRight(t, fmt.Sprintf(form, "host"))
		}
	}
	// Two names that begin alike are two names.
	long := "abcdefghijklmnopqrst"
	checkScript(t, fmt.Sprintf("module %s $fresh => accept\n module %sz $add => bad\n module %s $add => accept\n text %s => 4\n text %s => 8\n link %s %s => 0\n global %s g => 1\n global %s g => none\n global %sz g => bad",
		long, long, long[1:], long, long[1:], long, long, long, long[1:], long))
	for _, name := range goodScriptNames() {
		user := moduleOf(fmt.Sprintf(`import %q "g" global i32 var; export "h" global 0`, name))
		checkScript(t, fmt.Sprintf("module a $fresh => accept\n module b %s => accept\n link b y => unknown\n link a %s => 0\n link b y => 0\n global y h => 1", hexOf(user), name))
	}
}

// goodNums are at most 100000, so that they are right everywhere.
func goodNums() []string { return []string{"0", "1", "9", "10", "99", "100", "99999", "100000"} }

// badNums are bad wherever numbers stand.
func badNums() []string {
	return []string{"", "00", "01", "-1", "+1", "-0", "+0", "010", "0x1", "0x10", "1e3", "1.0", "1.", "1_0", "1,0", "a", "1a", "a1", "ff", "x", "-", "--1", "０", "１", "٣", "1\x00", "1\r", "\xff", "\t1", "000", "0000000000", "0000000001",
		"18446744073709551616", "18446744073709551617", "18446744073709551625", "20000000000000000000", "99999999999999999999", "100000000000000000000", "184467440737095516150", "00000000000000000001", "000000000000000000000", "36893488147419103232", "340282366920938463463374607431768211456"}
}

func TestScriptNumbers(t *testing.T) {
	t.Parallel()
	rows := []struct {
		form      string
		good, bad []string
	}{
		{"fuel %s", nil, []string{"100001", "1000000", "4294967295", "4294967296", "4294967297", "9999999999", "10000000000", "18446744073709551615", "9223372036854775808"}},
		{"in %s", []string{"100001", "4294967294", "4294967295"}, []string{"4294967296", "4294967297", "8589934592", "9999999999", "10000000000", "99999999999", "18446744073709551615"}},
		{"in 1 %s", []string{"4294967295"}, []string{"4294967296", "9999999999", "10000000000"}},
		{"in %s 1", []string{"4294967295"}, []string{"4294967296", "9999999999", "10000000000"}},
	}
	for _, form := range []string{"call lib bump %s", "flat lib bump %s", "call lib poke %s 1", "call lib poke 1 %s", "flat lib poke %s 1", "flat lib poke 1 2 3 %s", "call nothere nothing %s"} {
		rows = append(rows, struct {
			form      string
			good, bad []string
		}{form, []string{"4294967295", "4294967296", "9999999999", "10000000000", "99999999999", "9223372036854775807", "9223372036854775808", "9999999999999999999", "10000000000000000000", "18446744073709551614", "18446744073709551615"}, nil})
	}
	for _, r := range rows {
		for _, word := range slices.Concat(goodNums(), r.good) {
			checkRight(t, fmt.Sprintf(r.form, word))
		}
		for _, word := range slices.Concat(badNums(), r.bad) {
			checkBad(t, fmt.Sprintf(r.form, word))
		}
	}
	checkBad(t, "fuel 1 2", "fuel 1 1", "out 1", "text lib 1", "global lib g 1", "module other - 1", "link lib other 1")
}

func TestScriptHex(t *testing.T) {
	t.Parallel()
	empty := hexOf(impl.Module{})
	checkRight(t, "module other -", "module other 00", "module other ff", "module other "+empty, "module other 0123456789abcdef")
	bad := []string{"module other", "module other ", "module other --", "module other -00", "module other 00-", "module other 0", "module other " + empty[1:], "module other " + empty + "0", "module other 0" + empty,
		"module other " + strings.ToUpper(empty), "module other 0X", "module other 0x" + empty, "module other 0g", "module other g0", "module other 0/", "module other 0:", "module other 0`", "module other 0@", "module other -1", "module other 00 00", "module other " + empty + " ",
		"module other 0061736D01000000", "module other \x00\x00", "module other \x00asm", "module other \xff\xff", "module other 0é", "module other é", "module other ００"}
	for i := range empty {
		for _, c := range []string{"A", "F", "g", "G", "-", "\t", " ", "\x00", "\xff", "", "00 "} {
			if word := empty[:i] + c + empty[i+1:]; word != empty {
				bad = append(bad, "module other "+word)
			}
		}
	}
	checkBad(t, bad...)
	for c := range 256 {
		digit := strings.IndexByte("0123456789abcdef", byte(c))
		for _, line := range []string{"module other 0" + string([]byte{byte(c)}), "module other " + string([]byte{byte(c)}) + "0"} {
			switch {
			case c == '\n':
			case digit < 0:
				checkAnswers(t, line, "bad")
			case digit == 0:
				checkAnswers(t, line, "malformed 2 1")
			default:
				checkAnswers(t, line, "malformed 3 1")
			}
		}
	}
}

// TestScriptBadFirst: bad counts ahead of none and unknown, and of all that
// could be done.
func TestScriptBadFirst(t *testing.T) {
	t.Parallel()
	checkBad(t, "link nothere host", "link nothere OTHER", "link nothere other x", "link nothere", "link NOTHERE other", "call nothere bump 01", "call nothere bump x", "call nothere bump 18446744073709551616", "call nothere", "call nothere ", "call nothere  1",
		"call lib nothing 01", "call lib g x", "call host out32 01", "flat nothere bump 01", "flat nothere bump 18446744073709551616", "flat nothere", "flat lib nothing -1", "flat host in x", "global nothere", "global nothere g x", "global nothere g ", "global lib nothing 0", "global host out32 1",
		"text nothere x", "text nothere ", "text NOTHERE", "text nothere1", "in 1 2 3 4294967296", "in 1 2 3 x", "call lib bump 1 2 3 00", "call lib tell 1 x", "module other 0g")
	checkScript(t, "call a b => none\n call a b 1 => none\n flat a b => none\n global a b => none\n text a => none\n link a b => none")
}

func TestScriptEnds(t *testing.T) {
	if got := impl.RunScript(nil); len(got) != 0 {
		t.Errorf("nil: %q", got)
	}
	checkAnswers(t, "")
	for _, n := range []int{1, 2, 3, 100} {
		checkAnswers(t, strings.Repeat("\n", n), slices.Repeat([]string{"bad"}, n)...)
		checkAnswers(t, strings.Repeat("out\n", n), slices.Repeat([]string{"told"}, n)...)
		checkAnswers(t, strings.Repeat("out\n", n)+"out", slices.Repeat([]string{"told"}, n+1)...)
		checkAnswers(t, strings.Repeat("out\n", n)+" ", append(slices.Repeat([]string{"told"}, n), "bad")...)
	}
}

// TestScriptMost: just as many bytes as may be, and one more.
func TestScriptMost(t *testing.T) {
	if impl.ScriptMax != 20000 {
		t.Errorf("ScriptMax: %d", impl.ScriptMax)
	}
	custom := impl.Module{Customs: []impl.Custom{{Bytes: make([]byte, 9983)}}}
	for text, want := range map[string]string{
		strings.Repeat("\n", 20000):                  strings.Repeat("bad\n", 20000),
		strings.Repeat("x", 20000):                   "bad\n",
		strings.Repeat("\x00", 20000):                "bad\n",
		strings.Repeat(" ", 19999) + "\n":            "bad\n",
		strings.Repeat("out\n", 5000):                strings.Repeat("told\n", 5000),
		"\n" + strings.Repeat("out\n", 4999) + "out": "bad\n" + strings.Repeat("told\n", 5000),
		"in" + strings.Repeat(" 1", 9999):            "ok\n",
		"module ab " + hexOf(custom):                 "accept\n",
		"module a " + hexOf(custom) + "\n":           "accept\n",
	} {
		if len(text) != 20000 {
			t.Fatalf("%.100q: %d bytes", text, len(text))
		}
		if got := string(impl.RunScript([]byte(text))); got != want {
			t.Errorf("%.100q: %.100q", text, got)
		}
		for _, more := range []string{"\n", " ", "x", "\x00", "0", "00", "\nout\n", text} {
			if got := string(impl.RunScript([]byte(text + more))); got != "long\n" {
				t.Errorf("%.100q and %.10q: %.100q", text, more, got)
			}
		}
	}
	for _, n := range []int{20001, 20002, 65536, 1000000} {
		for _, c := range []string{"\n", "x", "\x00"} {
			if got := string(impl.RunScript([]byte(strings.Repeat(c, n)))); got != "long\n" {
				t.Errorf("%d times %q: %.100q", n, c, got)
			}
		}
	}
}
