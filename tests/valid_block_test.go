package tests

import (
	"slices"
	"strings"
	"testing"

	"loop.example/s00119/impl"
)

// shell is what stands around the inside of a block, and what a branch to the
// block takes along.
type shell struct {
	ahead  string
	behind string
	takes  string
}

// shells has a block, a loop, an if and an else, without and with a result
// (which is dropped behind the block).
func shells() []shell {
	return []shell{
		{"block; ", "end; end", ""},
		{"block f32; ", "f32.const; end; drop; end", "f"},
		{"loop; ", "end; end", ""},
		{"loop f32; ", "f32.const; end; drop; end", ""},
		{"i32.const; if; ", "end; end", ""},
		{"i32.const; if; ", "else; end; end", ""},
		{"i32.const; if f32; ", "f32.const; else; f32.const; end; drop; end", "f"},
		{"i32.const; if; else; ", "end; end", ""},
		{"i32.const; if f32; f32.const; else; ", "f32.const; end; drop; end", "f"},
	}
}

// count is the number of instructions of a text that ends with a semicolon.
func count(text string) int64 { return int64(strings.Count(text, ";")) }

func TestBranches(t *testing.T) {
	constant := map[string]string{"": "", "f": "f32.const; ", "I": "i64.const; "}
	for _, s := range shells() {
		for _, given := range []string{"", "f", "I"} {
			inner := s.ahead + constant[given]
			at := count(inner)
			err := int64(0)
			if s.takes != "" && given != s.takes {
				err = impl.VaType
			}
			checkBodies(t, []bodyRow{
				{"", inner + "br 0; " + s.behind, err, at},
				{"", inner + "i32.const; br_table 0; " + s.behind, err, at + 1},
				{"", inner + "i32.const; br_table 0 0 0; " + s.behind, err, at + 1},
				{"", inner + "i32.const; br_if 0; unreachable; " + s.behind, err, at + 1},
				{"", inner + "f64.const; br_if 0; unreachable; " + s.behind, impl.VaType, at + 1},
				{"", inner + "f64.const; br_table 0; " + s.behind, impl.VaType, at + 1},
				{"", inner + "br 1; " + s.behind, 0, 0},
				{"", inner + "br 2; " + s.behind, impl.VaIndex, at},
				{"", inner + "br_if 2; " + s.behind, impl.VaIndex, at},
				{"", inner + "br_table 2; " + s.behind, impl.VaIndex, at},
				{"", inner + "br_table 0 2 0; " + s.behind, impl.VaIndex, at},
				{"", inner + "br_table 0xffffffff 0; " + s.behind, impl.VaIndex, at},
				{"", inner + "br 0xffffffff; " + s.behind, impl.VaIndex, at},
			})
		}
	}
}

func TestBranchesToTheOutermost(t *testing.T) {
	for _, s := range shells() {
		at := count(s.ahead)
		behind := strings.TrimSuffix(s.behind, "end") + "i64.const; end"
		checkBodies(t, []bodyRow{
			{"-> i64", s.ahead + "i64.const; br 1; " + behind, 0, 0},
			{"-> i64", s.ahead + "i64.const; return; " + behind, 0, 0},
			{"-> i64", s.ahead + "br 1; " + behind, impl.VaType, at},
			{"-> i64", s.ahead + "return; " + behind, impl.VaType, at},
			{"-> i64", s.ahead + "i32.const; br 1; " + behind, impl.VaType, at + 1},
			{"-> i64", s.ahead + "i32.const; return; " + behind, impl.VaType, at + 1},
			{"-> i64", "i64.const; " + s.ahead + "return; " + behind, impl.VaType, at + 1},
			{"-> i64", s.ahead + "i64.const; i32.const; br_if 1; drop; " + behind, 0, 0},
			{"-> i64", s.ahead + "i32.const; br_if 1; " + behind, impl.VaType, at + 1},
			{"-> i64", s.ahead + "i64.const; i32.const; br_table 1; " + behind, 0, 0},
			{"-> i64", s.ahead + "i64.const; br 2; " + behind, impl.VaIndex, at + 1},
		})
	}
	checkBodies(t, []bodyRow{
		{"", "br 0; end", 0, 0},
		{"", "br 1; end", impl.VaIndex, 0},
		{"-> i64", "i64.const; br 0; end", 0, 0},
		{"-> i64", "i64.const; i32.const; br_if 0; end", 0, 0},
		{"-> i64", "i64.const; i32.const; br_if 1; end", impl.VaIndex, 2},
		{"-> i64", "f32.const; i64.const; br 0; end", 0, 0},
		{"-> i64", "f32.const; i64.const; return; end", 0, 0},
		{"-> i64", "f32.const; i64.const; i32.const; br_if 0; end", impl.VaType, 4},
		{"", "return; end", 0, 0},
		{"", "i32.const; return; end", 0, 0},
		{"-> i64", "return; end", impl.VaType, 0},
	})
}

func TestLabelsAreCountedFromTheInnermost(t *testing.T) {
	// A branch to number n takes the type of the block that is n further out.
	kinds := []string{"block i32; ", "block i64; ", "loop f32; ", "block; ", "loop; ", "block f64; "}
	takes := []string{"i", "I", "", "", "", "F"}
	ends := "unreachable; " + strings.Repeat("end; unreachable; ", len(kinds)) + "end"
	for n := range kinds {
		want := takes[len(kinds)-1-n]
		for _, c := range []string{"", "i", "I", "f", "F"} {
			body := slices.Concat(asm(strings.TrimSuffix(strings.Join(kinds, ""), "; ")), consts(c), []impl.Ins{{Op: 0x0c, A: int64(n)}}, asm(ends))
			err := int64(0)
			if want != "" && c != want {
				err = impl.VaType
			}
			checkBody(t, "-> i32", body, err, int64(len(kinds)+len(c)))
		}
	}
	body := strings.Join(kinds, "")
	checkBodies(t, []bodyRow{
		{"-> i32", body + "i32.const; br 6; " + ends, 0, 0},
		{"-> i32", body + "i64.const; br 6; " + ends, impl.VaType, 7},
		{"-> i32", body + "i32.const; br 7; " + ends, impl.VaIndex, 7},
	})
}

func TestLabelsOfBlocksThatHaveEnded(t *testing.T) {
	checkBodies(t, []bodyRow{
		{"", "block; end; br 1; end", impl.VaIndex, 2},
		{"", "block; end; br 0; end", 0, 0},
		{"", "block; block; end; br 2; end; end", impl.VaIndex, 3},
		{"", "block; block; end; br 1; end; end", 0, 0},
		{"", "i32.const; if; else; br 2; end; end", impl.VaIndex, 3},
		{"", "i32.const; if; br 1; else; br 1; end; end", 0, 0},
		{"-> i32", "block i32; i32.const; end; br 0; end", 0, 0},
		{"-> i32", "block i64; i64.const; end; br 0; end", impl.VaType, 3},
	})
}

func TestBranchTablesWithLabelsThatDiffer(t *testing.T) {
	// Inside: label 0 takes nothing (a loop), 1 an i32, 2 an i64, 3 an i32.
	ahead, behind := "block i32; block i64; block i32; loop; ", "end; unreachable; end; unreachable; end; unreachable; end; unreachable; end"
	rows := []struct {
		given  string
		labels string
		err    int64
	}{
		{"", "0", 0},
		{"", "0 0 0", 0},
		{"i32.const; ", "1", 0},
		{"i32.const; ", "1 3", 0},
		{"i32.const; ", "3 1 1 3", 0},
		{"i32.const; ", "1 3 1 3 3 1", 0},
		{"i64.const; ", "2 2", 0},
		{"i32.const; ", "2", impl.VaType},
		{"i64.const; ", "1", impl.VaType},
		{"i32.const; ", "1 2 1", impl.VaType},
		{"i32.const; ", "2 1", impl.VaType},
		{"i64.const; ", "1 2", impl.VaType},
		{"i64.const; ", "2 2 1", impl.VaType},
		{"i32.const; ", "0 1", impl.VaType},
		{"i32.const; ", "1 0", impl.VaType},
		{"i32.const; ", "1 1 0 1", impl.VaType},
		{"", "1 0", impl.VaType},
		{"i32.const; ", "1 1 5", impl.VaIndex},
		{"i32.const; ", "5 0 1", impl.VaIndex},
		{"i32.const; ", "0 5 1", impl.VaIndex},
		{"i32.const; ", "4 1", impl.VaType},
		{"i32.const; ", "4", 0},
	}
	for _, r := range rows {
		at := count(ahead+r.given) + 1
		checkBodies(t, []bodyRow{{"", ahead + r.given + "i32.const; br_table " + r.labels + "; " + behind, r.err, at}})
		// Labels that differ are wrong in dead code too, whatever it may have.
		dead, place := "unreachable; br_table "+r.labels+"; ", count(ahead)+1
		err := r.err
		if len(r.labels) == 1 {
			err = 0
		}
		checkBodies(t, []bodyRow{{"", ahead + dead + behind, err, place}})
	}
	checkBodies(t, []bodyRow{
		{"", "i32.const; br_table 0; end", 0, 0},
		{"", "br_table 0; end", impl.VaType, 0},
		{"", "i64.const; br_table 0; end", impl.VaType, 1},
		{"-> f32", "f32.const; i32.const; br_table 0 0; end", 0, 0},
		{"-> f32", "i32.const; f32.const; br_table 0 0; end", impl.VaType, 2},
		{"-> f32", "block f32; f32.const; i32.const; br_table 0 1 0; end; end", 0, 0},
		{"-> f32", "block; f32.const; i32.const; br_table 0 1; end; f32.const; end", impl.VaType, 3},
		{"-> f32", "block; f32.const; i32.const; br_table 1 1; end; f32.const; end", 0, 0},
	})
	long := impl.Ins{Op: 0x0e, L: slices.Repeat([]int64{0}, 50000)}
	checkBody(t, "", []impl.Ins{ins(0x41), long, ins(0x0b)}, 0, 0)
	long.L[49999] = 1
	checkBody(t, "", []impl.Ins{ins(0x41), long, ins(0x0b)}, impl.VaIndex, 1)
}

func TestBranchIfKeepsTheTypes(t *testing.T) {
	checkBodies(t, []bodyRow{
		{"-> i32", "i32.const; i32.const; br_if 0; i32.eqz; end", 0, 0},
		{"-> i64", "i64.const; i32.const; br_if 0; end", 0, 0},
		{"-> i64", "i64.const; i32.const; br_if 0; drop; end", impl.VaType, 4},
		{"", "block; i32.const; br_if 0; end; end", 0, 0},
		{"", "block; f32.const; i32.const; br_if 0; drop; end; end", 0, 0},
		{"", "block i32; i32.const; i32.const; br_if 0; end; drop; end", 0, 0},
		{"", "block i32; i32.const; br_if 0; i32.const; end; drop; end", impl.VaType, 2},
		{"", "loop i32; i32.const; br_if 0; i32.const; end; drop; end", 0, 0},
		{"", "i32.const; block i32; i32.const; br_if 0; i32.const; end; drop; drop; end", impl.VaType, 3},
	})
}

func TestIfs(t *testing.T) {
	checkBodies(t, []bodyRow{
		{"", "if; end; end", impl.VaType, 0},
		{"", "i64.const; if; end; end", impl.VaType, 1},
		{"", "i32.const; if; end; end", 0, 0},
		{"", "i32.const; if; else; end; end", 0, 0},
		{"", "i32.const; block; if; end; end; drop; end", impl.VaType, 2},
		{"-> i32", "i32.const; if i32; i32.const; end; end", impl.VaType, 3},
		{"-> i32", "i32.const; if i32; unreachable; end; end", impl.VaType, 3},
		{"-> i32", "i32.const; if i32; end; end", impl.VaType, 2},
		{"-> i32", "i32.const; if i32; i32.const; else; i32.const; end; end", 0, 0},
		{"-> i32", "i32.const; if i32; i32.const; else; end; end", impl.VaType, 4},
		{"-> i32", "i32.const; if i32; i32.const; else; i64.const; end; end", impl.VaType, 5},
		{"-> i32", "i32.const; if i32; i32.const; else; i32.const; i32.const; end; end", impl.VaType, 6},
		{"-> i32", "i32.const; if i32; else; i32.const; end; end", impl.VaType, 2},
		{"-> i32", "i32.const; if i32; i64.const; else; i32.const; end; end", impl.VaType, 3},
		{"-> i32", "i32.const; if i32; i32.const; i32.const; else; i32.const; end; end", impl.VaType, 4},
		{"", "i32.const; if; i32.const; else; end; end", impl.VaType, 3},
		{"", "i32.const; if; else; i32.const; end; end", impl.VaType, 4},
		{"", "i32.const; i32.const; if; drop; end; end", impl.VaType, 3},
		{"-> i32", "i32.const; i32.const; if; else; drop; end; i32.const; end", impl.VaType, 4},
		{"-> i32", "i32.const; i32.const; if; else; end; end", 0, 0},
		{"-> i32", "i32.const; if i32; i32.const; if i32; i32.const; else; i32.const; end; else; i32.const; end; end", 0, 0},
		{"-> i32", "i32.const; if i32; i32.const; if i32; i32.const; end; else; i32.const; end; end", impl.VaType, 5},
		{"-> i32", "i32.const; if i32; i32.const; else; i32.const; if i32; i32.const; end; end; end", impl.VaType, 7},
		{"-> i32", "i32.const; if i32; i32.const; else; i32.const; if; end; i32.const; end; end", 0, 0},
	})
	for _, ty := range []string{"i32", "i64", "f32", "f64"} {
		checkBodies(t, []bodyRow{
			{"-> " + ty, "i32.const; if " + ty + "; " + ty + ".const; end; end", impl.VaType, 3},
			{"-> " + ty, "i32.const; if " + ty + "; unreachable; else; " + ty + ".const; end; end", 0, 0},
			{"-> " + ty, "i32.const; if " + ty + "; " + ty + ".const; else; unreachable; end; end", 0, 0},
			{"-> " + ty, "i32.const; if " + ty + "; unreachable; else; unreachable; end; end", 0, 0},
			{"-> " + ty, "i32.const; if " + ty + "; unreachable; else; end; end", impl.VaType, 4},
		})
	}
}

func TestDeepBlocks(t *testing.T) {
	const depth = 20000
	for _, op := range []int64{0x02, 0x03} {
		body := slices.Repeat([]impl.Ins{{Op: op, A: 0x7f}}, depth)
		body = append(body, ins(0x41))
		branch := func(n int64) []impl.Ins {
			return slices.Concat(body, []impl.Ins{{Op: 0x0c, A: n}}, slices.Repeat(insList(0x0b), depth+1))
		}
		m := bodyModule(funcType("-> i32"), branch(depth))
		if got := impl.Validate(m); got != (impl.ValRes{}) {
			t.Errorf("deep: %+v", got)
		}
		if got := impl.StackAt(m, 1, depth); !same(got, impl.StackRes{Ok: true}) {
			t.Errorf("deep: %+v", got)
		}
		m.Codes[1].Body = branch(depth + 1)
		if got := impl.Validate(m); got != atBody(impl.VaIndex, depth+1) {
			t.Errorf("deep: %+v", got)
		}
	}
}
