package tests

import (
	"bytes"
	"slices"
	"testing"

	"loop.example/s00119/impl"
)

// hosted links a module whose imports have the names of the host functions.
func hosted(lines string) impl.Store {
	m := moduleOf(lines)
	var with []impl.Extern
	for _, x := range m.Imports {
		with = append(with, extern(0, int64(slices.Index([]string{"out32", "out64", "in", "fail"}, x.Name))))
	}
	r := impl.Instantiate(impl.StoreNew(), m, with)
	if r.Err != impl.LkOk {
		panic("not linked: " + lines)
	}
	return r.Store
}

// stage is a store in which function 4 has this type, locals and body (an end
// follows), and these surroundings:
//   - functions 0 to 3, the host's: i32 ->, i64 ->, -> i32, ->
//   - 5, i32 i64 -> i64, gives the first a thousand times and the second
//   - 6, ->, adds 1 to global 0
//   - 7, f32 f64 i32 i64 -> f64, gives the second, and sets its locals
//   - 8, ->, traps
//   - types: 1 to 4 of the host's functions, 5 and 6 of 5 and 7, 0 of 4 itself
//   - a table of -1, 5, 6, 0, 4, 2, 8, 3
//   - a memory of one page, which has 00 to 0f at its beginning, f0 to ff at its
//     end, and may have three pages
//   - globals: i32 40, i64 -1, f32 1, f64 -1, all Mut
func stage(ty, locals, body string) impl.Store { return hosted(stageLines(ty, locals, body)) }

func stageLines(ty, locals, body string) string {
	return "type " + ty + "; type i32 ->; type i64 ->; type -> i32; type ->; type i32 i64 -> i64; type f32 f64 i32 i64 -> f64; " +
		`import "h" "out32" func 1; import "h" "out64" func 2; import "h" "in" func 3; import "h" "fail" func 4; ` +
		"func 0; func 5; func 4; func 6; func 4; table 8; memory 1 3; " +
		"global i32 var; i32.const 40; end; global i64 var; i64.const -1; end; global f32 var; f32.const 0x3f800000; end; " +
		"global f64 var; f64.const 0xbff0000000000000; end; " +
		`export "main" func 4; export "fail" func 3; export "table" table 0; export "memory" memory 0; export "global" global 0; export "" func 5; ` +
		"elem 5 6 0 4 2 8 3; i32.const 1; end; " +
		"code" + locals + "; " + body + "; end; " +
		"code 1 i64; local.get 0; i64.extend_i32_s; i64.const 1000; i64.mul; local.get 1; i64.add; local.set 2; local.get 2; end; " +
		"code; global.get 0; i32.const 1; i32.add; global.set 0; end; " +
		"code 1 f32 1 i64; local.get 0; local.set 4; local.get 3; local.set 5; local.get 1; end; " +
		"code; unreachable; end; " +
		`data "\00\01\02\03\04\05\06\07\08\09\0a\0b\0c\0d\0e\0f"; i32.const 0; end; ` +
		`data "\f0\f1\f2\f3\f4\f5\f6\f7\f8\f9\fa\fb\fc\fd\fe\ff"; i32.const 65520; end`
}

// mustSame holds an answer of Invoke or Resume against another one.
func mustSame(t *testing.T, what any, got, want impl.RunRes) {
	t.Helper()
	if same(got, want) {
		return
	}
	stores := ""
	if !same(got.Store, want.Store) {
		stores = ", and the stores differ"
	}
	t.Fatalf("%v: Err %d, Used %d, %+v, want Err %d, Used %d, %+v%s", what, got.Err, got.Used, got.State, want.Err, want.Used, want.State, stores)
}

// reached is the place that the next instruction of a state writes to, if it
// is a store.
func reached(s impl.Store, state impl.State) (mem, from, to int64) {
	if state.Status != impl.Running {
		return -1, 0, 0
	}
	f := state.Frames[len(state.Frames)-1]
	own := s.Funcs[f.Func]
	x := own.Body[f.Pc]
	if x.Op < 0x36 || x.Op > 0x3e {
		return -1, 0, 0
	}
	from = int64(state.Stack[len(state.Stack)-2]) + x.B
	return s.Insts[own.Inst].Mems[0], from, from + widthOf(refTable[x.Op].name)
}

// checkGrown holds what a step did to memories and tables against promise 14.
func checkGrown(t *testing.T, what any, was, now impl.RunRes) {
	t.Helper()
	for i, table := range was.Store.Tables {
		if len(now.Store.Tables[i].Elems) != len(table.Elems) {
			t.Fatalf("%v: a table has changed its size", what)
		}
	}
	mem, first, behind := reached(was.Store, was.State)
	for i, memory := range was.Store.Mems {
		old, data := memory.Data, now.Store.Mems[i].Data
		from, to := first, behind
		if len(data) < len(old) {
			t.Fatalf("%v: a memory has become smaller", what)
		}
		if int64(i) != mem || to > int64(len(old)) {
			from, to = 0, 0
		}
		if !bytes.Equal(old[:from], data[:from]) || !bytes.Equal(old[to:], data[to:len(old)]) {
			t.Fatalf("%v: a byte outside of %d to %d has changed", what, from, to)
		}
		if slices.ContainsFunc(data[len(old):], func(b byte) bool { return b != 0 }) {
			t.Fatalf("%v: a new page is not of zeros", what)
		}
	}
}

// checkStep holds a step from a state that fits against promises 11 and 14.
func checkStep(t *testing.T, what any, codes refCodes, was, now impl.RunRes) {
	t.Helper()
	if !impl.ValidStore(now.Store) {
		t.Fatalf("%v: the store is not valid any more", what)
	}
	wrong := stateWrong(now.Store, now.State, codes)
	if fits := impl.StateFits(now.Store, now.State); !fits || len(wrong) > 0 {
		t.Fatalf("%v: fits: %v, what does not hold: %v: %+v", what, fits, wrong, now.State)
	}
	if now.State.Status == impl.Done && was.State.Status == impl.Running {
		results := was.Store.Funcs[was.State.Frames[0].Func].Type.Results
		if len(now.State.Stack) != len(results) {
			t.Fatalf("%v: Done with %v, of types %v", what, now.State.Stack, results)
		}
		for i, ty := range results {
			if v := now.State.Stack[i]; (ty == 0x7f || ty == 0x7d) && v>>32 != 0 {
				t.Fatalf("%v: Done with %#x, of type %#x", what, v, ty)
			}
		}
	}
	checkGrown(t, what, was, now)
}

// stepsSeen is how many steps of a run are looked at one by one.
const stepsSeen = 120

// checkRun holds a run against the other runner of the tests, and promises 11 to
// 14 with it: whole, put aside and written down behind every step, and by flat
// code.
func checkRun(t *testing.T, what any, s impl.Store, f int64, args ...uint64) impl.RunRes {
	t.Helper()
	codes, given := codesOf(s), []any{copyOf(s), slices.Clone(args)}
	whole := impl.Invoke(s, f, args, impl.FuelMax)
	mustSame(t, what, whole, refInvoke(s, f, args, impl.FuelMax))
	checkFlat(t, what, s, f, args, 0)
	last := impl.Invoke(s, f, args, 0)
	checkStep(t, what, codes, last, last)
	for n := range min(whole.Used, stepsSeen) + 1 {
		part := impl.Invoke(s, f, args, n)
		mustSame(t, what, part, refInvoke(s, f, args, n))
		if n > 0 {
			aside := copyOf(last)
			step := impl.Resume(last.Store, last.State, 1)
			mustSame(t, what, last, aside)
			mustSame(t, what, step, impl.RunRes{Used: 1, State: part.State, Store: part.Store})
			mustSame(t, what, refResume(last.Store, last.State, 1), step)
			checkStep(t, what, codes, last, part)
		}
		rest := impl.Resume(part.Store, written(t, what, part.State), impl.FuelMax-n)
		rest.Used += n
		mustSame(t, what, rest, whole)
		last = part
	}
	for i, v := range []any{s, args} {
		if !same(v, given[i]) {
			t.Fatalf("%v: argument %d was written to", what, i)
		}
	}
	return whole
}

// runRow is a body of the stage, and what comes of running it: a trap, or
// results; used is asked if it is not 0.
type runRow struct {
	ty     string
	locals string
	body   string
	args   []uint64
	trap   int64
	want   []uint64
	used   int64
}

func ends(want ...uint64) []uint64 { return want }

// checkRunRows has the answers of all rows.
func checkRunRows(t *testing.T, rows []runRow) []impl.RunRes {
	t.Helper()
	var out []impl.RunRes
	for _, r := range rows {
		s := stage(r.ty, r.locals, r.body)
		s.In = []uint64{5, 1<<32 - 1}
		got := checkRun(t, r, s, 4, r.args...)
		wanted := impl.State{Status: impl.Done, Stack: r.want}
		if r.trap != 0 {
			wanted = impl.State{Status: impl.Trapped, Trap: r.trap}
		}
		if got.Err != 0 || !same(got.State, wanted) || r.used != 0 && got.Used != r.used {
			t.Errorf("%+v: Err %d, Used %d, %+v", r, got.Err, got.Used, got.State)
		}
		out = append(out, got)
	}
	return out
}
