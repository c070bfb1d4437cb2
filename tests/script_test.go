package tests

import (
	"fmt"
	"strings"
	"testing"

	"loop.example/s00119/impl"
)

func TestScriptModules(t *testing.T) {
	checkScript(t, `
		module a $add => accept
		text a => 8
		module b - => malformed 2 0
		text b => none
		module b $empty => accept
		text b => 0
		link b b => 0
		module c 00 => malformed 2 1
		module c 01 => malformed 3 1
		module c 0061736d0100000005 => malformed 2 9
		module c 0061736d010000000c => malformed 4 9
		module c 0061736d01000000030100 => accept
		module c 0061736d0100000003020100 => invalid 2 12
		text c => 0
		module c $lib => accept
		module host $add => accept
		text host => 8
		link host x => 0
		call x add 1 2 => done 3
	`)
}

// TestScriptNamesAgain: a name means what was given it last; what is not
// accepted or not linked has none.
func TestScriptNamesAgain(t *testing.T) {
	checkScript(t, `
		module a $add => accept
		link a x => 0
		module a $fresh => accept
		text a => 4
		call x add 40 2 => done 42
		link a y => 0
		global y g => 1
		call y add 40 2 => error 2
		module a 0061736d0100000003020100 => invalid 2 12
		text a => 4
		module a ff => malformed 3 1
		text a => 4
		module a - => malformed 2 0
		link a x => 0
		call x add 40 2 => error 2
		global x g => 1
		module a $beyond => accept
		link a x => 7 5
		global x g => 1
		module a $kind => accept
		link a x => 4
		global x g => 1
		module a $use => accept
		link a x => unknown
		global x g => 1
		link b x => none
		global x g => 1
		module x $add => accept
		global x g => 1
		text x => 8
		text y => none
	`)
}

// TestScriptLinkedAgain: an instance can be linked to the one whose name it
// takes; what is linked stays linked to the older one.
func TestScriptLinkedAgain(t *testing.T) {
	checkScript(t, `
		module lib $lib => accept
		module self $self => accept
		link self x => unknown
		link lib x => 0
		link self y => 0
		call y bump => done 10
		global x g => 10
		link self x => 0
		call x bump => done 11
		call x peek 0 => error 2
		global y g => 11
		link lib x => 0
		global x g => 9
		global y g => 11
		call x bump => done 10
		global y g => 11
		call y bump => done 12
		link self y => 0
		global y g => 10
	`)
}

// TestScriptLibrary: several instances that share functions, globals, memories
// and tables, and the host.
func TestScriptLibrary(t *testing.T) {
	checkScript(t, `
		module lib $lib => accept
		module use $use => accept
		link use u => unknown
		link lib lib => 0
		link use u => 0
		link use v => 0
		call lib bump => done 10
		call u again => done 11
		call v again => done 12
		global lib g => 12
		global u h => 12
		call u twice => done 14
		global v h => 14
		call lib poke 5 255 => done
		call lib peek 5 => done 255
		call u lent 5 257 => done
		call lib peek 5 => done 1
		call lib peek 65535 => done 0
		call lib peek 65536 => trap 5
		call lib peek 4294967295 => trap 5
		call lib peek 4294967296 => error 3
		call lib poke 1 => error 3
		call lib poke 1 2 3 => error 3
		call lib peek => error 3
		call lib nothing => error 2
		call lib g => error 2
		call lib m => error 2
		call lib t => error 2
		call lib hostout 1 => error 2
		call lib hostfail => error 2
		call lib g 1 2 => error 2
		call nobody g => none
		call nobody nothing 1 2 => none
	`)
}

func TestScriptGlobals(t *testing.T) {
	checkScript(t, `
		module lib $lib => accept
		global lib g => none
		link lib lib => 0
		global lib g => 9
		global lib wide => 18446744073709551615
		global lib f => 4290772992
		global lib d => 9223372036854775808
		global lib bump => none
		global lib m => none
		global lib t => none
		global lib nothing => none
		global lib two => none
		global lib two words => bad
		global lib G => none
		global lib 0 => none
		global lib g! => none
		global nobody g => none
		global host out32 => none
		call host out32 1 => none
		call host fail => none
		flat host fail => none
		flat host in => none
		text host => none
		link host x => none
	`)
}

// TestScriptHost: what stands in the instance host, and what does not.
func TestScriptHost(t *testing.T) {
	types := map[string]string{"out32": "i32 ->", "out64": "i64 ->", "in": "-> i32", "fail": "->"}
	for name, ty := range types {
		m := hostLinked(fmt.Sprintf(`type %s; import "" %q func 0; export "f" func 0`, ty, name))
		checkScript(t, fmt.Sprintf("module a %s => accept\n link a x => 0\n call x f => error 2\n flat x f => error 2\n module a $fresh => accept\n link a out => 0\n link a host => bad", hexOf(m)))
		for _, other := range types {
			want := "0"
			if other != ty {
				want = "5"
			}
			m := hostLinked(fmt.Sprintf(`type %s; import "" %q func 0`, other, name))
			checkScript(t, fmt.Sprintf("module a %s => accept\n link a x => %s", hexOf(m), want))
		}
		for _, kind := range []string{"table 0", "memory 0", "global i32 const", "global i64 var"} {
			m := hostLinked(fmt.Sprintf(`import "" %q %s`, name, kind))
			checkScript(t, fmt.Sprintf("module a %s => accept\n link a x => 4\n global x g => none", hexOf(m)))
		}
	}
	for _, name := range []string{"", "out", "out3", "out320", "Out32", "out32 ", "OUT64", "in32", "fails", "host", "0", "1", "x"} {
		m := hostLinked(fmt.Sprintf(`type ->; import "" %q func 0`, name))
		checkScript(t, fmt.Sprintf("module a %s => accept\n link a x => unknown\n call x f => none", hexOf(m)))
	}
	for _, inst := range []string{"", "Host", "host ", "hos", "out32", "x", "é"} {
		m := moduleOf(fmt.Sprintf(`type ->; import %s "fail" func 0`, strWord(inst)))
		checkScript(t, fmt.Sprintf("module a %s => accept\n link a x => unknown\n link a x => unknown", hexOf(m)))
	}
}

// TestScriptUnknown: one import that is not found is enough, at any place, and
// counts ahead of all that Instantiate could say.
func TestScriptUnknown(t *testing.T) {
	good, wrong := `import "host" "fail" func 0; `, `import "host" "fail" memory 0; `
	for _, lost := range []string{`import "host" "none" func 0; `, `import "x" "nothing" func 0; `, `import "y" "f" func 0; `, `import "a" "f" func 0; `} {
		for imports, want := range map[string]string{
			good + wrong: "4", wrong + good: "4", good + lost: "unknown", lost + good: "unknown", good + lost + good: "unknown",
			wrong + lost: "unknown", lost + wrong: "unknown", lost: "unknown", good + good: "0",
		} {
			lib := moduleOf(`type ->; func 0; export "f" func 0; code; end`)
			user := moduleOf("type ->; " + imports + `func 0; export "f" func 0; code; end`)
			checkScript(t, fmt.Sprintf("module a %s => accept\n link a x => 0\n module a %s => accept\n link a z => %s\n call x f => done", hexOf(lib), hexOf(user), want))
		}
		great := moduleOf("type ->; " + lost + `func 0; memory 5; code 1001 i32; end; data "a"; i32.const -1; end`)
		checkScript(t, fmt.Sprintf("module b %s => accept\n link b z => unknown", hexOf(great)))
	}
}

// TestScriptLinkErrs: nothing is changed, and the name is not given.
func TestScriptLinkErrs(t *testing.T) {
	for name, want := range map[string]string{
		"locals": "2", "fits": "0", "kind": "4", "type": "5", "wide": "6", "great": "6", "beyond": "7 5", "element": "7 6", "both": "7 6",
	} {
		call := "none"
		if want == "0" {
			call = "done"
		}
		checkScript(t, fmt.Sprintf("module a $%s => accept\n link a x => %s\n call x f 1 => %s\n link a x => %s\n text a => %d", name, want, call, want, strings.Count(scriptModules()[name], ";")+1))
	}
	checkScript(t, `
		module lib $lib => accept
		link lib lib => 0
		module a $locals => accept
		link a lib => 2
		module a $kind => accept
		link a lib => 4
		module a $type => accept
		link a lib => 5
		module a $wide => accept
		link a lib => 6
		module a $beyond => accept
		link a lib => 7 5
		call lib bump => done 10
	`)
	writes := moduleOf(`import "lib" "m" memory 1; data "abc"; i32.const 0; end; data "d"; i32.const 65536; end`)
	checkScript(t, fmt.Sprintf("module lib $lib => accept\n link lib lib => 0\n module w %s => accept\n link w w => 7 5\n call lib peek 0 => done 0\n global w g => none", hexOf(writes)))
}

// TestScriptRoom: there is room for as many instances as a store may have,
// whatever their names are.
func TestScriptRoom(t *testing.T) {
	for _, names := range [][]string{{"x"}, {"x", "y", "z"}, linesOf("a\nb\nc\nd\ne\nf\ng\nh\ni\nj\nk\nl\nm\nn\no\np\nq\nr\ns\nt\nu\nv")} {
		script := "module a $fresh => accept\n"
		for i := range 22 {
			want := "0"
			if i >= impl.InstsMax {
				want = "6"
			}
			script += fmt.Sprintf("link a %s => %s\n", names[i%len(names)], want)
		}
		checkScript(t, script+"global "+names[0]+" g => 1\nmodule a $kind => accept\nlink a x => 4\nmodule a $beyond => accept\nlink a x => 6")
	}
}

func TestScriptStart(t *testing.T) {
	checkScript(t, `
		module a $started => accept
		link a x => 0 done
		call x f => done
		module b $bad => accept
		link b y => 0 trap 1
		call y f => done
		module c $endless => accept
		link c z => 0 fuel
		call z f => done
		module h $hosted => accept
		link h h => 0
		call h f => error 2
		fuel 0 => ok
		link a x => 0 fuel
		link b x => 0 fuel
		link h x => 0
		fuel 2 => ok
		link a x => 0 done
		link b x => 0 trap 1
		fuel 1 => ok
		link a x => 0 fuel
		link b x => 0 trap 1
		call x f => fuel
		fuel 100000 => ok
		link c x => 0 fuel
		call x f => done
	`)
	// What a start has done stays done, and it may be a function of another
	// instance, or of the host through another instance.
	checkScript(t, `
		module lib $lib => accept
		link lib lib => 0
		module l $lent => accept
		link l l => 0
		call l f => error 2
		module b $bumped => accept
		link b b => 0 trap 1
		global lib g => 11
		module e $bumpless => accept
		fuel 41 => ok
		link e e => 0 fuel
		global lib g => 15
		fuel 42 => ok
		link e e => 0 fuel
		global lib g => 20
		module s $bad => accept
		link s f => 0 trap 1
		module o $outer => accept
		fuel 1 => ok
		link o o => 0 fuel
		fuel 2 => ok
		link o o => 0 done
		link b x => 0 fuel
		global lib g => 20
		fuel 100 => ok
		link b x => 0 trap 1
		global lib g => 22
		call x f => error 2
		module h $hosted => accept
		link h f => 0
		link o o => 0
	`)
}

// TestScriptStartAhead: the start runs with the segments written, and what it
// changes is there for the lines behind; the numbers in and out too.
func TestScriptStartAhead(t *testing.T) {
	m := hostLinked(`type ->; type -> i32; type i32 ->; import "" "in" func 1; import "" "out32" func 2; func 0; func 1; memory 1; export "f" func 3; start 2; ` +
		`code; i32.const 7; i32.load8_u 0 0; call 1; call 0; call 1; i32.const 8; i32.const 77; i32.store8 0 0; end; code; i32.const 8; i32.load8_u 0 0; end; data "AB"; i32.const 7; end`)
	checkScript(t, fmt.Sprintf(`
		module a %s => accept
		in 5 6 7 => ok
		link a x => 0 done
		out => told 1:65 1:5
		call x f => done 77
		link a x => 0 done
		link a y => 0 done
		link a y => 0 done
		out => told 1:65 1:6 1:65 1:7 1:65 1:0
		flat x f => done 77`, hexOf(m)))
}

func TestScriptInOut(t *testing.T) {
	checkScript(t, `
		out => told
		in 1 => ok
		in 0 4294967295 10 => ok
		in 4294967296 => bad
		in 5 4294967296 => bad
		in 4294967296 5 => bad
		module lib $lib => accept
		link lib lib => 0
		call lib ask => done 1
		call lib ask => done 0
		in 3 => ok
		call lib ask => done 4294967295
		call lib ask => done 10
		call lib ask => done 3
		call lib ask => done 0
		call lib tell 0 => done
		call lib tell 4294967295 => done
		call lib tellwide 18446744073709551615 => done
		call lib tellwide 9223372036854775808 => done
		call lib tell 7 => done
		out => told 1:0 1:4294967295 2:18446744073709551615 2:9223372036854775808 1:7
		out => told
		call lib tell 4294967296 => error 3
		out => told
		call lib tell 8 => done
		out 1 => bad
		out => told 1:8
	`)
}

// TestScriptInMost: what would be too much is left out, and nothing else.
func TestScriptInMost(t *testing.T) {
	zeros := func(n int) string { return strings.Repeat(" 0", n) }
	checkScript(t, `
		module lib $lib => accept
		link lib lib => 0
		in`+zeros(998)+` 41 => ok
		in 42 43 44 => ok
		in 45 => ok
		call lib drain 998 => done 0
		call lib ask => done 41
		call lib ask => done 42
		call lib ask => done 0
		in`+zeros(999)+` 51 52 53 => ok
		in 54 => ok
		call lib ask => done 0
		in 55 56 => ok
		call lib drain 999 => done 51
		call lib ask => done 55
		call lib ask => done 0
		in`+zeros(1000)+` 61 => ok
		in 4294967296 => bad
		call lib drain 1000 => done 0
		call lib ask => done 0
	`)
}

func TestScriptOutMost(t *testing.T) {
	m := hostLinked(`type i32 ->; import "" "out32" func 0; func 0; export "f" func 1; code; loop; local.get 0; call 0; local.get 0; i32.const 1; i32.sub; local.tee 0; br_if 0; end; end`)
	told := func(from, to int) string {
		out := "told"
		for n := from; n >= to; n-- {
			out += fmt.Sprint(" 1:", n)
		}
		return out
	}
	checkScript(t, fmt.Sprintf("module a %s => accept\n link a x => 0\n call x f 1000 => done\n call x f 1 => trap 10\n flat x f 1 => trap 10\n out => %s\n call x f 1001 => trap 10\n flat x f 1000 => trap 10\n out => %s\n out => told\n flat x f 1000 => done\n out => told",
		hexOf(m), told(1000, 1), told(1001, 2)))
}

// TestScriptFuel: rounds of five steps and five or six more.
func TestScriptFuel(t *testing.T) {
	checkScript(t, `
		module c $counts => accept
		link c c => 0
		call c even 1999 => done
		call c odd 1999 => fuel
		call c even 2000 => fuel
		fuel 10001 => ok
		call c odd 1999 => done
		fuel 9999 => ok
		call c even 1999 => fuel
		fuel 100000 => ok
		call c even 19999 => done
		call c odd 19999 => fuel
		fuel 100001 => bad
		call c even 19999 => done
		fuel 4294967296 => bad
		fuel 9999999999 => bad
		fuel 10 => ok
		call c even 1 => done
		call c odd 1 => fuel
		fuel 11 => ok
		call c odd 1 => done
		fuel 0 => ok
		call c even 1 => fuel
		flat c even 1 => fuel
		call c even => error 3
		call c nothing => error 2
		flat c even => error 3
		flat c nothing => error 2
		fuel 5 => ok
		flat c even 1 => fuel
		fuel 6 => ok
		flat c even 1 => done
	`)
	// At first there are 10000: by flat code, rounds of five and one more.
	checkScript(t, "module c $counts => accept\n link c c => 0\n flat c even 1999 => done\n flat c even 2000 => fuel")
	// What was done when the fuel ran out stays done; by flat code it does not.
	checkScript(t, `
		module lib $lib => accept
		link lib lib => 0
		fuel 19 => ok
		call lib spin => fuel
		global lib g => 11
		flat lib spin => fuel
		global lib g => 11
		call lib spin => fuel
		global lib g => 13
	`)
}

// TestScriptFlat: a flat run leaves nothing, whatever it does.
func TestScriptFlat(t *testing.T) {
	checkScript(t, `
		module lib $lib => accept
		module use $use => accept
		link lib lib => 0
		link use u => 0
		in 5 6 => ok
		flat lib ask => done 5
		flat lib ask => done 5
		flat lib drain 2 => done 6
		call lib ask => done 5
		flat lib ask => done 6
		flat lib tell 3 => done
		out => told
		call lib tell 4 => done
		flat lib tellwide 5 => done
		out => told 1:4
		flat lib bump => done 10
		flat lib bump => done 10
		flat u twice => done 11
		flat u again => done 10
		global lib g => 9
		global u h => 9
		call lib bump => done 10
		flat lib bump => done 11
		flat lib poke 0 1 => done
		call lib peek 0 => done 0
		flat lib peek 0 => done 0
		call lib poke 0 2 => done
		flat lib poke 0 3 => done
		flat lib peek 0 => done 2
		flat lib peek 65536 => trap 5
		flat lib peek 4294967296 => error 3
		flat lib poke 1 => error 3
		flat lib poke 1 2 3 => error 3
		flat lib nothing => error 2
		flat lib g => error 2
		flat lib m => error 2
		flat lib t => error 2
		flat lib hostin => error 2
		flat lib hostout 1 2 => error 2
		flat nobody g => none
		flat nobody nothing 1 => none
	`)
	// What is no function may have the address of one.
	globals := strings.Repeat("global i32 const; i32.const 7; end; ", 6)
	kinds := moduleOf(`type -> i32; func 0; func 0; ` + globals + `export "f" func 1; export "e" global 4; export "g" global 5; code; i32.const 3; end; code; i32.const 4; end`)
	checkScript(t, fmt.Sprintf("module a %s => accept\n link a x => 0\n flat x f => done 4\n flat x e => error 2\n flat x g => error 2\n call x g => error 2\n global x g => 7\n global x f => none", hexOf(kinds)))
	grows := moduleOf(`type -> i32; func 0; memory 1 3; export "f" func 0; code; i32.const 1; memory.grow; end`)
	checkScript(t, fmt.Sprintf("module a %s => accept\n link a x => 0\n flat x f => done 1\n flat x f => done 1\n call x f => done 1\n flat x f => done 2\n call x f => done 2\n call x f => done 4294967295\n flat x f => done 4294967295", hexOf(grows)))
}

func TestScriptResults(t *testing.T) {
	for ty, most := range map[string]string{"i32": "4294967295", "f32": "4294967295", "i64": "18446744073709551615", "f64": "18446744073709551615"} {
		m := hexOf(moduleOf(fmt.Sprintf(`type %s -> %s; func 0; export "f" func 0; code; local.get 0; end`, ty, ty)))
		script := "module a " + m + " => accept\n link a x => 0\n"
		for _, arg := range []string{"0", "1", "9", "10", "2147483648", "4294967295", most} {
			script += fmt.Sprintf("call x f %s => done %s\n flat x f %s => done %s\n", arg, arg, arg, arg)
		}
		for _, arg := range []string{"4294967296", "9999999999", "10000000000", "18446744073709551615"} {
			want := "done " + arg
			if most == "4294967295" {
				want = "error 3"
			}
			script += fmt.Sprintf("call x f %s => %s\n flat x f %s => %s\n", arg, want, arg, want)
		}
		checkScript(t, script)
	}
}

// TestScriptTraps: each of them, of a call, a flat run and a start; what was
// done before stays done but for the flat run.
func TestScriptTraps(t *testing.T) {
	t.Parallel()
	all := trapBodies()
	delete(all, impl.TrapDepth) // its call would do again what was done before
	for trap, bodies := range all {
		for _, body := range bodies {
			m := hostLinked(stageLines("->", "", "call 2; call 0; call 6; "+body))
			m.Exports = append(m.Exports, impl.Export{Name: "second", Index: 6})
			started := m
			started.HasStart, started.Start = true, 4
			checkScript(t, fmt.Sprintf(`
				module a %s => accept
				link a x => 0
				in 5 6 => ok
				flat x main => trap %d
				global x global => 40
				out => told
				call x main => trap %d
				global x global => 41
				out => told 1:5
				call x second => done
				global x global => 42
				module b %s => accept
				link b y => 0 trap %d
				global y global => 41
				link b y => 0 trap %d
				out => told 1:6 1:0`, hexOf(m), trap, trap, hexOf(started), trap, trap))
		}
	}
	recursive := moduleOf(`type ->; func 0; export "f" func 0; code; call 0; end`)
	checkScript(t, "module a "+hexOf(recursive)+" => accept\n link a x => 0\n call x f => trap 9\n flat x f => trap 9")
	recursive.HasStart = true
	checkScript(t, "module a "+hexOf(recursive)+" => accept\n link a x => 0 trap 9\n call x f => trap 9")
}

// TestScriptExports: a STR may have any bytes but spaces and newlines, and is
// held against names by its bytes.
func TestScriptExports(t *testing.T) {
	for _, name := range []string{"f", "0", "-", "F", "é", "\U0010ffff", "\t", "\r", "\x00", "=", `"f"`, "a\rb", "\u00a0", "\u2028", "call", strings.Repeat("x", 500)} {
		m := moduleOf(`type -> i32; func 0; global i32 const; i32.const 4; end; export "" func 0; export " " func 0; code; i32.const 3; end`)
		m.Exports = append(m.Exports, impl.Export{Name: name}, impl.Export{Name: name + name, Kind: 3})
		checkAnswers(t, "module a "+hexOf(m)+"\nlink a x\ncall x "+name+"\nflat x "+name+"\nglobal x "+name+name+"\nglobal x "+name+"\ncall x "+name+name+"\nflat x "+name+name+"\ncall x \ncall x  \nflat x \nglobal x \ncall x "+name+" ",
			"accept", "0", "done 3", "done 3", "4", "none", "error 2", "error 2", "bad", "bad", "bad", "bad", "bad")
	}
	m := moduleOf(`type -> i32; func 0; export "f" func 0; code; i32.const 3; end`)
	for _, name := range []string{"\xff", "f\xff", "\xc3", "\xed\xa0\x80", "ff", "f\r", "f\t", "f\x00", "\x00f", "f,"} {
		checkAnswers(t, "module a "+hexOf(m)+"\nlink a x\ncall x "+name+"\nflat x "+name+"\nglobal x "+name+"\ncall y "+name, "accept", "0", "error 2", "error 2", "none", "none")
	}
}

// checkAnswers is for lines with bytes that checkScript would not keep.
func checkAnswers(t *testing.T, text string, want ...string) {
	t.Helper()
	if got := checkAnyScript(t, text); strings.Join(got, "\n") != strings.Join(want, "\n") {
		t.Errorf("%.600q: %q, want %q", text, got, want)
	}
}
