package tests

import (
	"fmt"
	"regexp"
	"strings"
	"testing"

	"loop.example/s00119/impl"
)

// hexOf is a module as a script has it.
func hexOf(m impl.Module) string { return fmt.Sprintf("%x", impl.Encode(m)) }

// hostLinked is a module whose imports are all of the instance host.
func hostLinked(lines string) impl.Module {
	m := moduleOf(lines)
	for i := range m.Imports {
		m.Imports[i].Module = "host"
	}
	return m
}

// scriptModules are those that scripts of the tests name by $ and a word.
func scriptModules() map[string]string {
	start := `type ->; func 0; func 0; export "f" func 0; start %d; code; nop; end; code; %s; end`
	return map[string]string{
		"empty": "",
		"add":   `type i32 i32 -> i32; func 0; export "add" func 0; code; local.get 0; local.get 1; i32.add; end`,
		"lib": `type i32 ->; type i64 ->; type -> i32; type ->; type i32 i32 ->; type i32 -> i32; ` +
			`import "host" "out32" func 0; import "host" "out64" func 1; import "host" "in" func 2; import "host" "fail" func 3; ` +
			`func 0; func 1; func 2; func 2; func 4; func 5; func 3; func 5; table 3; memory 1 3; ` +
			`global i32 var; i32.const 9; end; global i64 const; i64.const -1; end; global f32 const; f32.const 0xffc00000; end; global f64 var; f64.const 0x8000000000000000; end; ` +
			`export "tell" func 4; export "tellwide" func 5; export "ask" func 6; export "bump" func 7; export "poke" func 8; export "peek" func 9; export "spin" func 10; export "drain" func 11; ` +
			`export "hostout" func 0; export "hostin" func 2; export "hostfail" func 3; export "t" table 0; export "m" memory 0; export "g" global 0; export "wide" global 1; export "f" global 2; export "d" global 3; export "two words" global 0; ` +
			`code; local.get 0; call 0; end; code; local.get 0; call 1; end; code; call 2; end; ` +
			`code; global.get 0; i32.const 1; i32.add; global.set 0; global.get 0; end; ` +
			`code; local.get 0; local.get 1; i32.store8 0 0; end; code; local.get 0; i32.load8_u 0 0; end; ` +
			`code; loop; call 7; drop; br 0; end; end; ` +
			`code 1 i32; loop; call 2; local.set 1; local.get 0; i32.const 1; i32.sub; local.tee 0; br_if 0; end; local.get 1; end`,
		"use": `type -> i32; type i32 i32 ->; import "lib" "bump" func 0; import "lib" "g" global i32 var; import "lib" "m" memory 1; import "lib" "poke" func 1; import "lib" "t" table 1; ` +
			`func 0; export "again" func 0; export "h" global 0; export "m" memory 0; export "twice" func 2; export "lent" func 1; code; call 0; drop; call 0; end`,
		"self":  `type -> i32; import "x" "bump" func 0; import "x" "g" global i32 var; export "bump" func 0; export "g" global 0`,
		"fresh": `global i32 var; i32.const 1; end; export "g" global 0`,
		// Starts: one of each kind.
		"started":  fmt.Sprintf(start, 0, "nop"),
		"bad":      fmt.Sprintf(start, 1, "unreachable"),
		"endless":  fmt.Sprintf(start, 1, "loop; br 0; end"),
		"hosted":   `type ->; import "host" "fail" func 0; export "f" func 0; start 0`,
		"lent":     `type ->; import "lib" "hostfail" func 0; func 0; export "f" func 0; start 0; code; unreachable; end`,
		"bumped":   `type ->; type -> i32; import "lib" "bump" func 1; func 0; start 1; code; call 0; drop; call 0; drop; unreachable; end`,
		"bumpless": `type ->; type -> i32; import "lib" "bump" func 1; func 0; start 1; code; loop; call 0; drop; br 0; end; end`,
		"outer":    `type ->; import "f" "f" func 0; start 0`,
		"counts":   `type i32 ->; func 0; func 0; export "even" func 0; export "odd" func 1; code; loop; local.get 0; i32.const 1; i32.sub; local.tee 0; br_if 0; end; nop; nop; end; code; loop; local.get 0; i32.const 1; i32.sub; local.tee 0; br_if 0; end; nop; nop; nop; end`,
		// Errs of Instantiate, but for those that a script cannot come to.
		"locals":  `type i32 ->; func 0; export "f" func 0; code 1000 i64; end`,
		"fits":    `type i32 ->; func 0; export "f" func 0; code 999 i64; end`,
		"kind":    `import "host" "in" memory 0`,
		"type":    `type i64 ->; import "host" "out32" func 0`,
		"wide":    `table 1001`,
		"great":   `memory 5`,
		"beyond":  `memory 1; data "ab"; i32.const 65535; end`,
		"element": `type ->; import "host" "fail" func 0; table 1; elem 0; i32.const 1; end`,
		"both":    `type ->; import "host" "fail" func 0; table 1; memory 0; elem 0; i32.const 1; end; data "a"; i32.const 0; end`,
	}
}

var scriptModuleWord = regexp.MustCompile(`\$[a-z]+`)

// withModules has the digits of the modules that a script names.
func withModules(script string) string {
	modules := scriptModules()
	return scriptModuleWord.ReplaceAllStringFunc(script, func(word string) string {
		lines, there := modules[word[1:]]
		if !there {
			panic("no module " + word)
		}
		if lines == "" {
			return hexOf(impl.Module{})
		}
		return hexOf(moduleOf(lines))
	})
}

// checkScript takes lines, each with an arrow and its answer behind it, and
// holds against them the whole script, each beginning of it, and the last line
// without its newline.
func checkScript(t *testing.T, rows string) {
	t.Helper()
	var lines, answers []string
	for _, row := range linesOf(strings.TrimSpace(rows)) {
		line, answer, _ := strings.Cut(strings.TrimSpace(row), " => ")
		lines, answers = append(lines, withModules(line)), append(answers, answer)
	}
	for i, got := range checkAnyScript(t, strings.Join(lines, "\n")+"\n") {
		if got != answers[i] {
			t.Fatalf("line %d, %.300q: %q, want %q, in\n%s", i+1, lines[i], got, answers[i], rows)
		}
	}
	for n := range lines {
		part := strings.Join(lines[:n+1], "\n")
		for _, text := range []string{part, part + "\n"} {
			if got, want := string(impl.RunScript([]byte(text))), strings.Join(answers[:n+1], "\n")+"\n"; got != want {
				t.Fatalf("%d lines: %q, want %q", n+1, got, want)
			}
		}
	}
}
