package tests

import (
	"strings"
	"testing"

	"loop.example/s00119/impl"
)

// killers has what makes the code behind it dead, in a function without
// results.
func killers() []string {
	return []string{"unreachable; ", "br 0; ", "i32.const; br_table 0; ", "i32.const; br_table 0 0; ", "return; "}
}

// deadRow is code behind a killer: what is wrong with it, and where, counted
// from the killer's end.
type deadRow struct {
	body string
	err  int64
	pos  int64
}

func TestDeadCode(t *testing.T) {
	rows := []deadRow{
		{"end", 0, 0},
		{"drop; end", 0, 0},
		{"drop; drop; drop; end", 0, 0},
		{"i32.add; drop; end", 0, 0},
		{"i32.add; end", impl.VaType, 1},
		{"i32.add; i64.eqz; drop; end", impl.VaType, 1},
		{"i32.const; i32.add; drop; end", 0, 0},
		{"i64.const; i32.add; drop; end", impl.VaType, 1},
		{"i64.const; i32.const; i32.add; drop; end", impl.VaType, 2},
		{"i32.const; end", impl.VaType, 1},
		{"i32.const; drop; end", 0, 0},
		{"select; drop; end", 0, 0},
		{"select; end", impl.VaType, 1},
		{"select; i32.eqz; drop; end", 0, 0},
		{"select; i64.eqz; drop; end", 0, 0},
		{"select; f64.neg; drop; end", 0, 0},
		{"select; select; drop; end", 0, 0},
		{"select; select; select; drop; drop; end", 0, 0},
		{"i32.const; select; i64.eqz; drop; end", 0, 0},
		{"i64.const; select; drop; end", impl.VaType, 1},
		{"i64.const; i32.const; select; i64.eqz; drop; end", 0, 0},
		{"i64.const; i32.const; select; i32.eqz; drop; end", impl.VaType, 3},
		{"select; i64.const; i32.const; select; i64.eqz; drop; end", 0, 0},
		{"select; i64.const; i32.const; select; i32.eqz; drop; end", impl.VaType, 4},
		{"i64.const; select; i32.const; select; drop; end", impl.VaType, 1},
		{"i64.const; i32.const; i32.const; select; drop; end", impl.VaType, 3},
		{"f32.const; i32.const; select; f64.const; i32.const; select; drop; end", impl.VaType, 5},
		{"call 1; drop; end", 0, 0},
		{"i64.const; call 1; drop; end", 0, 0},
		{"i32.const; call 1; drop; end", impl.VaType, 1},
		{"f32.const; i64.const; call 1; drop; end", impl.VaType, 2},
		{"call_indirect 2; drop; end", 0, 0},
		{"local.set 0; end", 0, 0},
		{"local.tee 0; f32.neg; drop; end", 0, 0},
		{"local.tee 0; f64.neg; drop; end", impl.VaType, 1},
		{"local.get 2; f32.neg; drop; end", impl.VaType, 1},
		{"global.set 1; end", 0, 0},
		{"i32.store; end", 0, 0},
		{"f32.const; i32.store; end", impl.VaType, 1},
		{"br_if 0; end", 0, 0},
		{"i64.const; br_if 0; end", impl.VaType, 1},
		{"br 0; drop; end", 0, 0},
		{"i32.const; br 0; end", 0, 0},
		{"return; i32.const; end", impl.VaType, 2},
		{"block; end; end", 0, 0},
		{"block; drop; end; end", impl.VaType, 1},
		{"block i32; end; drop; end", impl.VaType, 1},
		{"block i32; i32.const; end; drop; drop; end", 0, 0},
		{"block i32; i32.const; end; i64.eqz; drop; end", impl.VaType, 3},
		{"loop; select; end; end", impl.VaType, 1},
		{"if; end; end", 0, 0},
		{"if; drop; end; end", impl.VaType, 1},
		{"if i32; i32.const; end; drop; end", impl.VaType, 2},
		{"if i32; unreachable; else; i32.const; end; drop; end", 0, 0},
		{"if; unreachable; drop; else; drop; end; end", impl.VaType, 4},
		{"if; unreachable; else; i32.add; drop; end; end", impl.VaType, 3},
		{"block; br 1; drop; end; drop; end", 0, 0},
		{"block; end; drop; drop; end", 0, 0},
		{"local.get 3; end", impl.VaIndex, 0},
		{"call 3; end", impl.VaIndex, 0},
		{"br 1; end", impl.VaIndex, 0},
		{"br_table 0 1 0; end", impl.VaIndex, 0},
		{"global.set 2; end", impl.VaMut, 0},
		{"i64.load 4 0; end", impl.VaAlign, 0},
		{"call_indirect 3; end", impl.VaIndex, 0},
	}
	for _, kill := range killers() {
		n := count(kill)
		for _, r := range rows {
			checkBodies(t, []bodyRow{{"", kill + r.body, r.err, n + r.pos}})
			// What stood there before is gone with the dead code's beginning.
			before := "f64.const; f64.const; f64.const; "
			checkBodies(t, []bodyRow{{"", before + kill + r.body, r.err, n + 3 + r.pos}})
		}
	}
}

func TestDeadCodeWithResults(t *testing.T) {
	rows := []bodyRow{
		{"-> i32", "unreachable; end", 0, 0},
		{"-> i32", "unreachable; i32.const; end", 0, 0},
		{"-> i32", "unreachable; i64.const; end", impl.VaType, 2},
		{"-> i32", "unreachable; i32.const; i32.const; end", impl.VaType, 3},
		{"-> i32", "unreachable; i64.const; i32.const; end", impl.VaType, 3},
		{"-> i32", "unreachable; select; end", 0, 0},
		{"-> i32", "unreachable; select; i32.const; end", impl.VaType, 3},
		{"-> i32", "unreachable; i32.const; i32.const; select; end", 0, 0},
		{"-> i32", "unreachable; i64.const; i32.const; select; end", impl.VaType, 4},
		{"-> i32", "unreachable; br_if 0; end", 0, 0},
		{"-> i32", "unreachable; br_if 0; i64.eqz; end", impl.VaType, 2},
		{"-> i32", "unreachable; br_if 0; drop; end", 0, 0},
		{"-> i32", "unreachable; br_if 0; br_if 0; end", 0, 0},
		{"-> i32", "unreachable; select; br_if 0; i64.eqz; end", impl.VaType, 3},
		{"-> i64", "unreachable; i32.const; br_if 0; drop; end", 0, 0},
		{"-> i64", "unreachable; i32.const; i32.const; br_if 0; drop; end", impl.VaType, 3},
		{"-> i32", "unreachable; return; end", 0, 0},
		{"-> i32", "unreachable; i64.const; return; end", impl.VaType, 2},
		{"-> i32", "i32.const; return; i64.const; br 0; end", impl.VaType, 3},
		{"-> i32", "i32.const; br 0; end", 0, 0},
		{"-> i32", "i32.const; i32.const; br_table 0; end", 0, 0},
		{"-> i32", "i32.const; return; drop; end", 0, 0},
		{"-> i32", "block i32; unreachable; end; end", 0, 0},
		{"-> i32", "block i32; unreachable; i64.const; end; end", impl.VaType, 3},
		{"-> i64", "block i32; unreachable; end; end", impl.VaType, 3},
		{"-> i32", "loop i32; br 0; end; end", 0, 0},
		{"-> i32", "loop i32; br 0; select; end; end", 0, 0},
		{"-> i32", "loop i32; br 0; i64.const; end; end", impl.VaType, 3},
		{"-> i32", "block; unreachable; end; end", impl.VaType, 3},
		{"-> i32", "block; unreachable; end; i32.const; end", 0, 0},
		{"-> i32", "block; br 0; i32.const; end; i32.const; end", impl.VaType, 3},
		{"-> i32", "i32.const; block; unreachable; drop; drop; end; end", 0, 0},
		{"-> i32", "i32.const; block; unreachable; end; drop; end", impl.VaType, 5},
		{"-> i32", "i32.const; if i32; unreachable; else; i32.const; end; end", 0, 0},
		{"-> i32", "i32.const; if i32; br 1; else; i32.const; end; end", impl.VaType, 2},
		{"-> i32", "i32.const; if i32; i32.const; br 1; else; i64.const; end; end", impl.VaType, 6},
		{"-> i32", "i32.const; if i32; unreachable; i64.const; else; i32.const; end; end", impl.VaType, 4},
		{"-> i32", "i32.const; if i32; unreachable; i32.const; i32.const; else; i32.const; end; end", impl.VaType, 5},
		{"-> i32", "i32.const; if i32; unreachable; drop; else; drop; end; end", impl.VaType, 5},
		{"-> i32", "i32.const; if i32; i32.const; else; unreachable; end; i64.eqz; end", impl.VaType, 6},
	}
	checkBodies(t, rows)
	// What ends a block makes dead only what is left of it.
	for _, kill := range killers() {
		n := count(kill)
		checkBodies(t, []bodyRow{
			{"", "block; " + kill + "end; drop; end", impl.VaType, n + 2},
			{"", "block; " + kill + "drop; end; end", 0, 0},
			{"", "loop; " + kill + "end; i32.const; end", impl.VaType, n + 3},
			{"", "i32.const; if; " + kill + "end; drop; end", impl.VaType, n + 3},
			{"", "i32.const; if; " + kill + "else; drop; end; end", impl.VaType, n + 3},
			{"", "i32.const; if; else; " + kill + "drop; end; drop; end", impl.VaType, n + 5},
		})
	}
}

// TestUnknownTypesAtEveryPlain has every instruction in dead code with every
// beginning of what it takes missing, and with another type among the rest;
// and with an unknown type below the rest, which is taken if something is
// missing, and left over at the end otherwise.
func TestUnknownTypesAtEveryPlain(t *testing.T) {
	dead := func(ahead, types string, p plainIns) []impl.Ins {
		return append(asm(ahead), bodyOf(types, p.x, p.gives)...)
	}
	for _, p := range plainInss() {
		for n := range len(p.takes) + 1 {
			rest := p.takes[n:]
			checkBody(t, "", dead("unreachable", rest, p), 0, 0)
			for _, types := range others(rest) {
				checkBody(t, "", dead("unreachable", types, p), impl.VaType, int64(len(rest))+1)
			}
			err := int64(0)
			if n == 0 {
				err = impl.VaType
			}
			body := dead("unreachable; select", rest, p)
			checkBody(t, "", body, err, int64(len(body)-1))
		}
	}
}

func TestManyUnknownTypes(t *testing.T) {
	body := "unreachable; " + strings.Repeat("select; select; drop; ", 200) + "end"
	checkBodies(t, []bodyRow{{"", body, 0, 0}})
}
