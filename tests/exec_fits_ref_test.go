package tests

import (
	"slices"

	"loop.example/s00119/impl"
)

// refCode is what the other checker of the tests has to say of a body.
type refCode struct {
	stacks []impl.StackRes
	tree   []refNode
}

// refCodes has it of the functions of a store, as far as they have been asked
// for; running changes nothing of it.
type refCodes struct {
	s     impl.Store
	codes map[int64]refCode
}

func codesOf(s impl.Store) refCodes { return refCodes{s, map[int64]refCode{}} }

func (k refCodes) of(addr int64) refCode {
	code, done := k.codes[addr]
	if !done {
		f := k.s.Funcs[addr]
		code.stacks = wantStacks((&refStore{s: k.s}).bodyAlone(f), 0)
		code.tree, _ = treeOf(f.Body, 0)
		k.codes[addr] = code
	}
	return code
}

// labelsAround has those of the blocks around an instruction, in a frame of
// this height.
func (c refCode) labelsAround(nodes []refNode, pc int64, height int64) []impl.Label {
	for _, n := range nodes {
		if n.at >= pc || n.endAt < pc {
			continue
		}
		label := n.label()
		label.Height = height + int64(len(c.stacks[n.at].Types))
		if n.x.Op == 0x04 {
			label.Height--
		}
		return slices.Concat([]impl.Label{label}, c.labelsAround(n.inner, pc, height), c.labelsAround(n.other, pc, height))
	}
	return nil
}

// refState holds a state against the document's sentences, and gathers those
// that do not hold.
type refState struct {
	refStore
	codes refCodes
	t     impl.State
}

func (r *refState) upper(values []uint64, types []int64) {
	for i, v := range values {
		narrow := types[i] == 0x7f || types[i] == 0x7d
		r.ask(!narrow || v>>32 == 0, "upper half")
	}
}

// called tells whether x calls a function, in an instance.
func (r *refState) called(x impl.Ins, inst impl.Instance, addr int64) bool {
	switch x.Op {
	case 0x10:
		return inst.Funcs[x.A] == addr
	case 0x11:
		return same(inst.Types[x.A], r.s.Funcs[addr].Type)
	}
	return false
}

// frame is asked where its function, and that of the frame above, are there.
func (r *refState) frame(number int) {
	f := r.t.Frames[number]
	own := r.s.Funcs[f.Func]
	if types := slices.Concat(own.Type.Params, own.Locals); r.ask(len(f.Locals) == len(types), "locals") {
		r.upper(f.Locals, types)
	}
	if number == 0 {
		r.ask(f.Height == 0, "first height")
	}
	if !r.ask(f.Pc >= 0 && f.Pc < int64(len(own.Body)), "pc") {
		return
	}
	code := r.codes.of(f.Func)
	at := code.stacks[f.Pc]
	if !r.ask(!at.Dead, "dead") {
		return
	}
	r.ask(slices.Equal(f.Labels, code.labelsAround(code.tree, f.Pc, f.Height)), "labels")
	types, to := at.Types, int64(len(r.t.Stack))
	if number+1 < len(r.t.Frames) {
		above := r.t.Frames[number+1]
		to = above.Height
		if !r.ask(f.Pc > 0 && r.called(own.Body[f.Pc-1], r.s.Insts[own.Inst], above.Func), "a call") {
			return
		}
		types = types[:len(types)-len(r.s.Funcs[above.Func].Type.Results)]
	}
	inside := f.Height >= 0 && f.Height <= to && to <= int64(len(r.t.Stack))
	if r.ask(inside && to-f.Height == int64(len(types)), "stack") {
		r.upper(r.t.Stack[f.Height:to], types)
	}
}

func (r *refState) running() {
	r.ask(r.t.Trap == 0, "trap")
	r.ask(len(r.t.Frames) >= 1 && len(r.t.Frames) <= 200, "frames")
	for _, f := range r.t.Frames {
		if !r.ask(f.Func >= 4 && f.Func < int64(len(r.s.Funcs)), "func") {
			return
		}
	}
	for number := range r.t.Frames {
		r.frame(number)
	}
}

// stateWrong has the sentences that do not hold of a state in a store that is
// valid.
func stateWrong(s impl.Store, t impl.State, codes refCodes) []string {
	r := &refState{refStore{s: s}, codes, t}
	switch t.Status {
	case 0:
		r.running()
	case 1:
		r.ask(t.Trap == 0, "trap")
		r.ask(len(t.Frames) == 0, "frames")
		r.ask(len(t.Stack) <= 1, "stack")
	case 2:
		r.ask(t.Trap >= 1 && t.Trap <= 10, "trap")
		r.ask(len(t.Frames) == 0, "frames")
		r.ask(len(t.Stack) == 0, "stack")
	default:
		r.ask(false, "status")
	}
	return r.wrong
}
