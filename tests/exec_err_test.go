package tests

import (
	"fmt"
	"math"
	"slices"
	"testing"

	"loop.example/s00119/impl"
)

// givenStores has stores with what they are for: 0, or 1 where they are not
// valid.
func givenStores(s impl.Store) map[int64][]impl.Store {
	spoil := func(do func(s *impl.Store)) impl.Store {
		out := copyOf(s)
		do(&out)
		return out
	}
	return map[int64][]impl.Store{
		0: {s},
		1: {
			{},
			spoil(func(s *impl.Store) { s.Funcs[5].Body = asm("end") }),
			spoil(func(s *impl.Store) { s.Globals[0].Val = 1 << 32 }),
			spoil(func(s *impl.Store) { s.Mems[0].Data = s.Mems[0].Data[1:] }),
			spoil(func(s *impl.Store) { s.In = slices.Repeat(ends(1), 1001) }),
			spoil(func(s *impl.Store) { s.Funcs[2].Host = 0 }),
		},
	}
}

func fuels() map[int64][]int64 {
	return map[int64][]int64{0: {0, 1, 5, 100000}, 4: {-1, 100001, math.MinInt64, math.MaxInt64, 1 << 32, -100000}}
}

// firstErr is the least one that is not 0.
func firstErr(errs ...int64) int64 {
	for _, err := range errs {
		if err != 0 {
			return err
		}
	}
	return 0
}

// everyCause has what a function can be run with, of which any may be wrong,
// and the Err of it.
func everyCause(do func(s impl.Store, f int64, args []uint64, fuel int64, err int64)) {
	s := stage("i32 i64 f32 f64 -> i64", "", "local.get 1")
	funcs := map[int64][]int64{0: {4}, 2: {-1, 0, 1, 2, 3, 9, 10, math.MinInt64, math.MaxInt64, 1<<32 + 4, -4}}
	args := map[int64][][]uint64{
		0: {{0, 0, 0, 0}, {1<<32 - 1, 1<<64 - 1, 1<<32 - 1, 1<<64 - 1}},
		3: {nil, {0}, {0, 0, 0}, {0, 0, 0, 0, 0}, {1 << 32, 0, 0, 0}, {0, 0, 1 << 32, 0}, {1 << 63, 1, 1, 1}, {1, 1, 1<<64 - 1, 1}},
	}
	for e1, stores := range givenStores(s) {
		for _, given := range stores {
			for e2, fs := range funcs {
				for _, f := range fs {
					for e3, lists := range args {
						for _, list := range lists {
							for e4, all := range fuels() {
								for _, fuel := range all {
									do(given, f, list, fuel, firstErr(e1, e2, e3, e4))
								}
							}
						}
					}
				}
			}
		}
	}
}

// TestInvokeErrs: each Err alone, and with all that come behind it.
func TestInvokeErrs(t *testing.T) {
	everyCause(func(s impl.Store, f int64, args []uint64, fuel int64, err int64) {
		got := impl.Invoke(s, f, args, fuel)
		if got.Err != err || err != 0 && !same(got, impl.RunRes{Err: err}) {
			t.Fatalf("f %d, %v, fuel %d: Err %d, want %d", f, args, fuel, got.Err, err)
		}
	})
	s := stage("i32 i64 f32 f64 -> i64", "", "local.get 1")
	if got := impl.Invoke(s, 4, ends(1, 1<<64-1, 3, 4), 5); got.Err != impl.RnOk || !slices.Equal(got.State.Stack, ends(1<<64-1)) {
		t.Errorf("%+v", got)
	}
}

func TestResumeErrs(t *testing.T) {
	s := stage("i64 -> i64", "", "local.get 0; i64.const 1; i64.add")
	good := []impl.State{
		impl.Invoke(s, 4, ends(7), 0).State, impl.Invoke(s, 4, ends(7), 2).State, impl.Invoke(s, 4, ends(7), 10).State, {Status: impl.Trapped, Trap: 3},
	}
	states := map[int64][]impl.State{0: good, 5: {{}, {Status: 3}, {Status: impl.Done, Trap: 1}, {Status: impl.Trapped}}}
	for _, t := range good {
		more := copyOf(t)
		more.Stack = append(more.Stack, 1, 2)
		states[5] = append(states[5], more)
	}
	for e1, stores := range givenStores(s) {
		for _, given := range stores {
			for e2, list := range states {
				for _, state := range list {
					for e3, all := range fuels() {
						for _, fuel := range all {
							got := impl.Resume(given, state, fuel)
							err := firstErr(e1, e2, e3)
							if got.Err != err || err != 0 && !same(got, impl.RunRes{Err: err}) {
								t.Fatalf("causes %v: %+v, fuel %d: %+v", []int64{e1, e2, e3}, state, fuel, got.Err)
							}
							if fits := impl.StateFits(given, state); fits != (firstErr(e1, e2) == 0) {
								t.Fatalf("%v: %+v", fits, state)
							}
						}
					}
				}
			}
		}
	}
}

func TestFuel(t *testing.T) {
	s := hosted("type i64 -> i64; func 0; code; local.get 0; i64.eqz; if i64; i64.const 1; else; local.get 0; local.get 0; i64.const 1; i64.sub; call 0; i64.mul; end; end")
	const all = 5*11 + 6
	for fuel := range int64(all + 5) {
		got := impl.Invoke(s, 4, ends(5), fuel)
		if fuel < all && (got.State.Status != impl.Running || got.Used != fuel || len(got.State.Frames) == 0) {
			t.Errorf("fuel %d: Used %d, %+v", fuel, got.Used, got.State)
		}
		if fuel >= all && (!same(got.State, impl.State{Status: impl.Done, Stack: ends(120)}) || got.Used != all) {
			t.Errorf("fuel %d: Used %d, %+v", fuel, got.Used, got.State)
		}
	}
	if got := impl.Invoke(s, 4, ends(5), 0); !same(got.State, impl.State{Frames: []impl.Frame{{Func: 4, Locals: ends(5)}}}) || !same(got.Store, s) {
		t.Errorf("no fuel: %+v", got.State)
	}
	ends := hosted("type ->; func 0; code; unreachable; end")
	for fuel := range int64(3) {
		if got := impl.Invoke(ends, 4, nil, fuel); got.Used != min(fuel, 1) || got.State.Status != min(fuel, 1)*impl.Trapped {
			t.Errorf("a trap with fuel %d: Used %d, %+v", fuel, got.Used, got.State)
		}
	}
}

// TestFuelMax has runs that never end, and one that ends with the last step.
func TestFuelMax(t *testing.T) {
	s := hosted("type ->; func 0; code; loop; br 0; end; end")
	got := impl.Invoke(s, 4, nil, impl.FuelMax)
	if got.Used != impl.FuelMax || got.State.Status != impl.Running || got.State.Frames[0].Pc != 2 && got.State.Frames[0].Pc != 1 {
		t.Errorf("Used %d, %+v", got.Used, got.State)
	}
	again := impl.Resume(got.Store, got.State, impl.FuelMax)
	if again.Used != impl.FuelMax || again.State.Status != impl.Running || len(again.State.Frames[0].Labels) != 1 {
		t.Errorf("Used %d, %+v", again.Used, again.State)
	}
	// 7 steps before the rounds, of which each has 5, and 3 behind them.
	last := hosted("type i32 ->; func 0; code; nop; nop; nop; nop; nop; nop; loop; local.get 0; i32.const 1; i32.sub; local.tee 0; br_if 0; end; nop; end")
	rounds := uint64((impl.FuelMax - 7 - 3) / 5)
	whole := impl.Invoke(last, 4, ends(rounds), impl.FuelMax)
	if whole.Used != impl.FuelMax || whole.State.Status != impl.Done {
		t.Errorf("Used %d: %+v", whole.Used, whole.State)
	}
	mustSame(t, "long", whole, refInvoke(last, 4, ends(rounds), impl.FuelMax))
	if got := impl.Invoke(last, 4, ends(rounds), impl.FuelMax-1); got.State.Status != impl.Running || got.Used != impl.FuelMax-1 {
		t.Errorf("one less: Used %d, %+v", got.Used, got.State)
	}
	if got := impl.Invoke(last, 4, ends(rounds+1), impl.FuelMax); got.State.Status != impl.Running || got.Used != impl.FuelMax {
		t.Errorf("one round more: Used %d, %+v", got.Used, got.State)
	}
}

func TestInvokeExport(t *testing.T) {
	s := stage("i64 -> i64", "", "local.get 0; i64.const 1; i64.add")
	rows := []struct {
		inst int64
		name string
		args []uint64
		fuel int64
		err  int64
	}{
		{0, "main", ends(6), 100, 0}, {0, "", ends(6, 6), 100, 0}, {0, "main", ends(6), 2, 0},
		{0, "fail", nil, 100, 2}, {0, "table", nil, 100, 2}, {0, "memory", nil, 100, 2}, {0, "global", nil, 100, 2},
		{0, "Main", ends(6), 100, 2}, {0, "main ", ends(6), 100, 2}, {0, "mai", ends(6), 100, 2},
		{-1, "main", ends(6), 100, 2}, {1, "main", ends(6), 100, 2}, {math.MinInt64, "main", ends(6), 100, 2}, {math.MaxInt64, "", ends(6, 6), 100, 2},
		{0, "main", nil, 100, 3}, {0, "main", ends(6, 6), -1, 3}, {0, "", ends(1<<32, 6), 100, 3}, {0, "main", ends(6), -1, 4}, {0, "main", ends(6), 100001, 4},
		{0, "table", ends(6), -1, 2}, {1, "main", nil, -1, 2},
	}
	addrs := map[string]int64{"main": 4, "": 5}
	for _, r := range rows {
		got := impl.InvokeExport(s, r.inst, r.name, r.args, r.fuel)
		want := impl.RunRes{Err: r.err}
		if r.err == 0 {
			want = impl.Invoke(s, addrs[r.name], r.args, r.fuel)
		}
		mustSame(t, r, got, want)
	}
	if got := impl.InvokeExport(s, 0, "main", ends(6), 100); !slices.Equal(got.State.Stack, ends(7)) {
		t.Errorf("%+v", got.State)
	}
	for _, bad := range givenStores(s)[1] {
		// Find has no function in a store that is not valid.
		if got := impl.InvokeExport(bad, 0, "main", ends(6), 100); !same(got, impl.RunRes{Err: impl.RnFunc}) {
			t.Errorf("a store that is not valid: %+v", got)
		}
	}
}

// TestRunIsNewMemory: answers share nothing with arguments, nor with each
// other, nor do the lists of one of them.
func TestRunIsNewMemory(t *testing.T) {
	s := deep("i32.const 4; call_indirect 0", "i32.const 7; call 0; call 2; drop; i32.const 1; memory.grow; drop")
	s.In, s.Out = ends(1, 2, 3), []impl.Told{{Host: 2, Val: 1}}
	args := ends(4)
	before, given := copyOf(s), slices.Clone(args)
	whole := impl.Invoke(s, 4, args, impl.FuelMax)
	last := impl.RunRes{}
	for n := range whole.Used + 1 {
		part := impl.Invoke(s, 4, args, n)
		rest := impl.Resume(part.Store, part.State, impl.FuelMax)
		one := impl.Resume(part.Store, part.State, 1)
		none := impl.Resume(part.Store, part.State, 0)
		checkApart(t, s, args, part, rest, one, none, last)
		aside := copyOf(part)
		ruin(&rest)
		ruin(&one)
		ruin(&none)
		mustSame(t, n, part, aside)
		last = part
	}
	if !same(s, before) || !slices.Equal(args, given) {
		t.Errorf("an argument was written to")
	}
	export := impl.InvokeExport(s, 0, "main", args, 30)
	checkApart(t, s, args, export, last)
	ruin(&export)
	ruin(&whole)
	if !same(s, before) || !slices.Equal(args, given) {
		t.Errorf("an answer hangs on an argument")
	}
	mustSame(t, "again", impl.Invoke(s, 4, args, last.Used), last)
}

// ruin writes into all that an answer has.
func ruin(r *impl.RunRes) {
	for i := range r.Store.Funcs {
		clear(r.Store.Funcs[i].Body)
		clear(r.Store.Funcs[i].Locals)
		clear(r.Store.Funcs[i].Type.Params)
	}
	for i := range r.Store.Mems {
		for j := range r.Store.Mems[i].Data {
			r.Store.Mems[i].Data[j]++
		}
	}
	for i := range r.Store.Tables {
		clear(r.Store.Tables[i].Elems)
	}
	clear(r.Store.Globals)
	clear(r.Store.Insts[0].Funcs)
	clear(r.Store.Insts)
	clear(r.Store.In)
	clear(r.Store.Out)
	for i := range r.State.Frames {
		clear(r.State.Frames[i].Locals)
		clear(r.State.Frames[i].Labels)
	}
	clear(r.State.Frames)
	clear(r.State.Stack)
}

func TestDoneStays(t *testing.T) {
	s := stage("i64 -> i64", "", "local.get 0")
	for _, state := range []impl.State{{Status: impl.Done}, {Status: impl.Done, Stack: ends(1<<64 - 1)}, {Status: impl.Trapped, Trap: 1}, {Status: impl.Trapped, Trap: 10}} {
		for _, fuel := range []int64{0, 1, impl.FuelMax} {
			got := impl.Resume(s, state, fuel)
			mustSame(t, fmt.Sprint(state, fuel), got, impl.RunRes{State: state, Store: s})
			checkApart(t, s, state, got)
		}
	}
}
