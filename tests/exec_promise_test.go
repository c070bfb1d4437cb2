package tests

import (
	"slices"
	"testing"

	"loop.example/s00119/impl"
)

// value is one of a type, often small or an edge.
func (k maker) value(ty int64) uint64 {
	v := pick(k, edgeWords())
	switch {
	case ty == 0x7d:
		v = pick(k, single.edges())
	case ty == 0x7c:
		v = pick(k, double.edges())
	case k.Intn(2) == 0:
		v = uint64(k.Intn(12))
	}
	if ty == 0x7f || ty == 0x7d {
		v &= 1<<32 - 1
	}
	return v
}

func (k maker) values(types []int64) []uint64 {
	var out []uint64
	for _, ty := range types {
		out = append(out, k.value(ty))
	}
	return out
}

// runIns is an instruction that a run often comes by without a trap.
func (k maker) runIns() impl.Ins {
	x := k.nearIns()
	switch w := refTable[x.Op]; {
	case k.Intn(3) == 0:
		x = pick(k, []impl.Ins{
			{Op: 0x41, V: uint64(k.Intn(9))}, {Op: 0x42, V: k.value(0x7e)}, {Op: 0x43, V: k.value(0x7d)}, {Op: 0x44, V: k.value(0x7c)},
			{Op: 0x20, A: int64(k.Intn(5))}, {Op: 0x0d, A: int64(k.Intn(4))}, {Op: 0x41, V: uint64(k.Intn(2))},
		})
	case w.form == 5:
		x.A, x.B = 0, k.Int63n(30)
	case x.Op == 0x00 && k.Intn(10) > 0:
		return impl.Ins{Op: 0x01}
	}
	return x
}

// applied is an instruction of 28 to bf, with what it takes ahead of it.
func (k maker) applied() []impl.Ins {
	w := pick(k, slices.DeleteFunc(slices.Clone(k.ops), func(w opWant) bool { return w.op < 0x28 }))
	list := consts(letters(w.params))
	for i, ty := range w.params {
		list[i].V = k.value(ty)
	}
	x := k.ins(w)
	if w.form == 5 {
		x.A, x.B, list[0].V = 0, k.Int63n(30), uint64(k.Intn(100))
	}
	return append(list, x)
}

// runBody is a valid body, of which as much as can be is not dead.
func (k maker) runBody(m impl.Module, code int64, tries int) []impl.Ins {
	r := newRefBody(m, code)
	var list []impl.Ins
	take := func(all ...impl.Ins) {
		for _, x := range all {
			if err := r.step(x); err != 0 {
				panic("what should end a block does not")
			}
			list = append(list, x)
		}
	}
	for range tries {
		if dead := r.top().cases.one().open; dead && len(r.blocks) == 1 {
			break
		} else if dead {
			take(finished(r)...)
			continue
		}
		if k.Intn(6) == 0 {
			take(k.applied()...)
			continue
		}
		x := k.runIns()
		if x.Op == 0x0b && len(r.blocks) == 1 || x.Op == 0x05 && !r.top().bare {
			continue
		}
		if then := r.clone(); then.step(x) == 0 {
			take(x)
		}
	}
	for len(r.blocks) > 0 {
		take(finished(r)...)
	}
	return list
}

// runModule imports the host's functions, and has something of everything.
func (k maker) runModule() impl.Module {
	global := func(ty int64) impl.Global {
		return impl.Global{Type: impl.GlobalType{Type: ty, Mut: true}, Init: append(consts(letters([]int64{ty})), ins(0x0b))}
	}
	m := impl.Module{
		Types: []impl.FuncType{funcType("i32 ->"), funcType("i64 ->"), funcType("-> i32"), funcType("->")},
		Imports: []impl.Import{
			{Name: "out32"}, {Name: "out64", Type: 1}, {Name: "in", Type: 2}, {Name: "fail", Type: 3},
		},
		Tables:  []impl.Limits{limits(8)},
		Mems:    []impl.Limits{limitsTo(k.Int63n(2), 3)},
		Globals: []impl.Global{global(0x7f), global(0x7e), global(0x7d), global(0x7c)},
	}
	m.Types = append(m.Types, some(k, 3, func() impl.FuncType {
		return impl.FuncType{Params: some(k, 3, k.valueType), Results: some(k, 1, k.valueType)}
	})...)
	for range 2 + k.Intn(3) {
		m.Funcs = append(m.Funcs, int64(k.Intn(len(m.Types))))
		m.Codes = append(m.Codes, impl.Code{Locals: some(k, 3, func() impl.Group { return impl.Group{N: 1, Type: k.valueType()} })})
	}
	m.Elems = []impl.Elem{{Offset: asm("i32.const 1; end"), Funcs: some(k, 7, func() int64 { return int64(k.Intn(4 + len(m.Funcs))) })}}
	for i := range m.Codes {
		m.Codes[i].Body = k.runBody(m, int64(i), 10+k.Intn(90))
	}
	return m
}

// runStore has a run module linked to the host's functions.
func (k maker) runStore() impl.Store { return k.runStoreOf(k.runModule()) }

func (k maker) runStoreOf(m impl.Module) impl.Store {
	r := impl.Instantiate(impl.StoreNew(), m, []impl.Extern{extern(0, 0), extern(0, 1), extern(0, 2), extern(0, 3)})
	if r.Err != impl.LkOk {
		panic("what the tests make is not linked")
	}
	r.Store.In = some(k, 5, func() uint64 { return k.value(0x7f) })
	return r.Store
}

// liveAt has the numbers of the instructions that are not dead; behind a call
// alone, if so wanted.
func (c refCode) liveAt(body []impl.Ins, behindCall bool) []int64 {
	var out []int64
	for pc, at := range c.stacks {
		if !at.Dead && (!behindCall || pc > 0 && (body[pc-1].Op == 0x10 || body[pc-1].Op == 0x11)) {
			out = append(out, int64(pc))
		}
	}
	return out
}

// calledAt are the functions that a frame may wait for, that is behind a call.
func calledAt(s impl.Store, addr, pc int64) []int64 {
	f := s.Funcs[addr]
	x, inst := f.Body[pc-1], s.Insts[f.Inst]
	var out []int64
	for called := int64(4); called < int64(len(s.Funcs)); called++ {
		if x.Op == 0x10 && inst.Funcs[x.A] == called || x.Op == 0x11 && same(inst.Types[x.A], s.Funcs[called].Type) {
			out = append(out, called)
		}
	}
	return out
}

// put puts a frame at a place on top of a state; left are how many types of
// the stack there have no value yet.
func (k maker) put(s impl.Store, codes refCodes, t *impl.State, addr, pc int64, left int) {
	f, code, height := s.Funcs[addr], codes.of(addr), int64(len(t.Stack))
	types := code.stacks[pc].Types
	t.Frames = append(t.Frames, impl.Frame{
		Func: addr, Pc: pc, Height: height,
		Locals: k.values(slices.Concat(f.Type.Params, f.Locals)), Labels: code.labelsAround(code.tree, pc, height),
	})
	t.Stack = append(t.Stack, k.values(types[:len(types)-left])...)
}

// stateAt is one that fits, with some frames, of which the last is at a place.
func (k maker) stateAt(s impl.Store, codes refCodes, addr, pc int64) impl.State {
	var t impl.State
	for range k.Intn(3) {
		below := 4 + k.Int63n(int64(len(s.Funcs))-4)
		if n := len(t.Frames); n > 0 {
			below = t.Frames[n-1].Func
		}
		places := codes.of(below).liveAt(s.Funcs[below].Body, true)
		places = slices.DeleteFunc(places, func(pc int64) bool { return !slices.Contains(calledAt(s, below, pc), addr) })
		if len(places) == 0 {
			continue
		}
		k.put(s, codes, &t, below, pick(k, places), len(s.Funcs[addr].Type.Results))
		break
	}
	k.put(s, codes, &t, addr, pc, 0)
	return t
}

// TestStepPromise goes one step, and some more, from every place of many
// functions, with any values.
func TestStepPromise(t *testing.T) {
	t.Parallel()
	k := newMaker(111)
	seen, frames := map[int64]int{}, map[int]int{}
	for i := range 100 {
		s := k.runStore()
		if i%4 == 0 {
			s = k.linkedStore()
		}
		codes := codesOf(s)
		for addr := int64(4); addr < int64(len(s.Funcs)); addr++ {
			for _, pc := range codes.of(addr).liveAt(s.Funcs[addr].Body, false) {
				state := k.stateAt(s, codes, addr, pc)
				if wrong := checkStateFits(t, "made", s, state, codes); len(wrong) > 0 {
					t.Fatalf("what the tests make does not fit: %v: %+v", wrong, state)
				}
				far := impl.Resume(s, state, 40)
				mustSame(t, "40 steps", far, refResume(s, state, 40))
				checkStep(t, "40 steps", codes, far, far)
				seen[s.Funcs[addr].Body[pc].Op]++
				frames[len(state.Frames)]++
			}
		}
	}
	t.Logf("frames: %v", frames)
	for _, w := range allOps() {
		if seen[w.op] == 0 {
			t.Errorf("no step of %s", w.name)
		}
	}
	if frames[2] < 100 {
		t.Errorf("%d states of two frames", frames[2])
	}
}

// checkParts runs a function with some fuel at once, and with the same fuel in
// parts; it has the answer.
func (k maker) checkParts(t *testing.T, s impl.Store, f int64, args []uint64, fuel int64) impl.RunRes {
	t.Helper()
	whole := impl.Invoke(s, f, args, fuel)
	mustSame(t, "whole", whole, refInvoke(s, f, args, fuel))
	for _, most := range []int64{1 + fuel/50, 1 + fuel/5, fuel} {
		part := impl.Invoke(s, f, args, k.Int63n(most+1))
		used := part.Used
		for used < whole.Used {
			part = impl.Resume(part.Store, part.State, min(k.Int63n(most+1), fuel-used))
			used += part.Used
		}
		part.Used = used
		mustSame(t, "in parts", part, whole)
	}
	return whole
}

// TestRunPromise runs many functions, whole and in parts.
func TestRunPromise(t *testing.T) {
	t.Parallel()
	k := newMaker(112)
	status, traps, longest := map[int64]int{}, map[int64]int{}, int64(0)
	for i := range 800 {
		s := k.runStore()
		for f := int64(4); f < int64(len(s.Funcs)); f++ {
			args := k.values(s.Funcs[f].Type.Params)
			got := k.checkParts(t, s, f, args, 400)
			status[got.State.Status]++
			traps[got.State.Trap]++
			longest = max(longest, got.Used)
			if i%30 == 0 && got.Used < 100 {
				checkRun(t, "made", s, f, args...)
			}
		}
	}
	t.Logf("status: %v, traps: %v, the longest %d", status, traps, longest)
	for _, want := range []int64{0, 1, 2} {
		if status[want] < 20 {
			t.Errorf("status %d: %d runs", want, status[want])
		}
	}
	for trap := int64(1); trap <= 10; trap++ {
		if traps[trap] == 0 && trap != impl.TrapDepth {
			t.Errorf("no run has trap %d", trap)
		}
	}
}

// TestPutAside: a run of many steps is cut anywhere, into any number of parts.
func TestPutAside(t *testing.T) {
	k := newMaker(113)
	s := stage("i32 -> i64", " 1 i64", "block; loop; local.get 0; i32.eqz; br_if 1; local.get 0; local.get 1; call 5; local.set 1; "+
		"local.get 0; local.get 1; i64.store 3 0; call 6; call 2; call 0; local.get 0; i32.const 1; i32.sub; local.set 0; "+
		"i32.const 1; memory.grow; drop; i32.const 2; call_indirect 4; br 0; end; end; local.get 1")
	s.In = slices.Repeat(ends(3, 5), 40)
	for _, fuel := range []int64{0, 1, 100, 1000, 10000} {
		got := k.checkParts(t, s, 4, ends(90), fuel)
		if fuel == 10000 && (got.State.Status != impl.Done || len(got.Store.Out) != 90 || got.Store.Globals[0].Val != 220) {
			t.Errorf("Used %d, %+v", got.Used, got.State)
		}
	}
	all := impl.Invoke(s, 4, ends(90), impl.FuelMax)
	part := impl.Invoke(s, 4, ends(90), 0)
	var used int64
	for part.State.Status == impl.Running {
		part = impl.Resume(part.Store, part.State, 1)
		used += part.Used
	}
	part.Used = used
	mustSame(t, "step by step", part, all)
}

// TestStatesSpoiled changes states that fit at any place.
func TestStatesSpoiled(t *testing.T) {
	t.Parallel()
	k := newMaker(114)
	seen := map[string]int{}
	for range 90 {
		s := k.runStore()
		codes := codesOf(s)
		for range 12 {
			addr := 4 + k.Int63n(int64(len(s.Funcs))-4)
			state := k.stateAt(s, codes, addr, pick(k, codes.of(addr).liveAt(s.Funcs[addr].Body, false)))
			if k.Intn(9) == 0 {
				state = pick(k, []impl.State{{Status: 1, Stack: ends(7)}, {Status: 2, Trap: 3}})
			}
			for range 25 {
				wrong := checkStateFits(t, "spoiled", s, spoiled(k, state), codes)
				for _, sentence := range wrong {
					seen[sentence]++
				}
				if len(wrong) == 0 {
					seen[""]++
				}
			}
		}
	}
	t.Logf("seen: %v", seen)
	for _, sentence := range []string{"", "status", "trap", "frames", "func", "locals", "pc", "dead", "labels", "first height", "stack", "upper half", "a call"} {
		if seen[sentence] == 0 {
			t.Errorf("%q was not seen", sentence)
		}
	}
}

// TestStatesMoved puts the last frame of a state at every place of its body.
func TestStatesMoved(t *testing.T) {
	k := newMaker(115)
	for range 60 {
		s := k.runStore()
		codes := codesOf(s)
		addr := 4 + k.Int63n(int64(len(s.Funcs))-4)
		body := s.Funcs[addr].Body
		state := k.stateAt(s, codes, addr, pick(k, codes.of(addr).liveAt(body, false)))
		for pc := range int64(len(body)) {
			moved := copyOf(state)
			moved.Frames[len(moved.Frames)-1].Pc = pc
			checkStateFits(t, "moved", s, moved, codes)
		}
	}
}
