package tests

import (
	"slices"
	"strings"

	"loop.example/s00119/impl"
)

// refNode is an instruction, with what stands inside of it if it is a block:
// inner up to an else or its end, other from the else on.
type refNode struct {
	at     int64
	x      impl.Ins
	inner  []refNode
	other  []refNode
	elseAt int64
	endAt  int64
}

// treeOf reads a list from number at on, up to the else or end that ends it,
// whose number it has too.
func treeOf(body []impl.Ins, at int64) ([]refNode, int64) {
	var out []refNode
	for {
		n := refNode{at: at, x: body[at], elseAt: -1, endAt: -1}
		switch body[at].Op {
		case 0x05, 0x0b:
			return out, at
		case 0x02, 0x03, 0x04:
			n.inner, at = treeOf(body, at+1)
			if body[at].Op == 0x05 {
				n.elseAt = at
				n.other, at = treeOf(body, at+1)
			}
			n.endAt = at
		}
		out = append(out, n)
		at++
	}
}

// last is the number of the last instruction of a node.
func (n refNode) last() int64 { return max(n.at, n.endAt) }

// label is that of a block, but for its height.
func (n refNode) label() impl.Label {
	switch {
	case n.x.Op == 0x03:
		return impl.Label{Pc: n.at + 1, Loop: true}
	case n.x.A == 0x40:
		return impl.Label{Pc: n.endAt + 1}
	}
	return impl.Label{Pc: n.endAt + 1, Arity: 1}
}

// refScope is a block that is open, with the values that were pushed in it.
type refScope struct {
	label  impl.Label
	values []uint64
}

// refCall is a function that is being run; the first scope is its body's.
type refCall struct {
	addr   int64
	pc     int64
	locals []uint64
	scopes []refScope
}

func (c *refCall) top() *refScope { return &c.scopes[len(c.scopes)-1] }

func (c *refCall) push(values ...uint64) { c.top().values = append(c.top().values, values...) }

// take has the topmost values of the innermost scope, which has them no more.
func (c *refCall) take(n int) []uint64 {
	values := c.top().values
	rest := len(values) - n
	c.top().values = values[:rest:rest]
	return values[rest:]
}

func (c *refCall) pop() uint64 { return c.take(1)[0] }

// refExit is how a list was left: by its last instruction (away is -1), or to
// the label that is so many blocks away, with these values.
type refExit struct {
	away   int
	values []uint64
}

func refOn() refExit { return refExit{away: -1} }

// refStop and refTrap are thrown: by fuel that is used up, and by a trap.
type refStop struct{}

type refTrap int64

// refRunner runs functions by Go's own calls, blocks by Go's own loops; each
// block has values of its own, so that there are no heights.
type refRunner struct {
	s     impl.Store
	calls []*refCall
	fuel  int64
	used  int64
}

// tick stands before an instruction is done.
func (r *refRunner) tick(c *refCall, at int64) {
	c.pc = at
	if r.used == r.fuel {
		panic(refStop{})
	}
	r.used++
}

// list goes on with the instruction number from.
func (r *refRunner) list(c *refCall, nodes []refNode, last int64, from int64) refExit {
	for _, n := range nodes {
		out := refOn()
		switch {
		case n.last() < from:
		case n.at < from:
			out = r.inside(c, n, from)
		default:
			r.tick(c, n.at)
			out = r.do(c, n)
		}
		if out.away >= 0 {
			return out
		}
	}
	r.tick(c, last)
	return refOn()
}

// inside goes on within a block whose scope is open.
func (r *refRunner) inside(c *refCall, n refNode, from int64) refExit {
	for {
		nodes, last := n.inner, n.endAt
		if n.elseAt >= 0 {
			last = n.elseAt
		}
		if n.elseAt >= 0 && from > n.elseAt {
			nodes, last = n.other, n.endAt
		}
		out := r.list(c, nodes, last, from)
		scope := *c.top()
		c.scopes = c.scopes[:len(c.scopes)-1]
		switch {
		case out.away < 0:
			c.push(scope.values...)
			return refOn()
		case out.away > 0:
			return refExit{out.away - 1, out.values}
		case !scope.label.Loop:
			c.push(out.values...)
			return refOn()
		}
		from = n.at + 1
		c.scopes = append(c.scopes, refScope{label: scope.label})
	}
}

func (r *refRunner) open(c *refCall, n refNode, from int64) refExit {
	c.scopes = append(c.scopes, refScope{label: n.label()})
	return r.inside(c, n, from)
}

// away leaves to a label, or the function.
func (r *refRunner) away(c *refCall, n int64) refExit {
	arity := len(r.s.Funcs[c.addr].Type.Results)
	if labels := int64(len(c.scopes)) - 1; n < labels {
		arity = int(c.scopes[labels-n].label.Arity)
	}
	return refExit{int(n), slices.Clone(c.take(arity))}
}

func (r *refRunner) do(c *refCall, n refNode) refExit {
	x := n.x
	switch x.Op {
	case 0x00:
		panic(refTrap(1))
	case 0x02, 0x03:
		return r.open(c, n, n.at+1)
	case 0x04:
		if c.pop() != 0 {
			return r.open(c, n, n.at+1)
		}
		if n.elseAt >= 0 {
			return r.open(c, n, n.elseAt+1)
		}
	case 0x0c:
		return r.away(c, x.A)
	case 0x0d:
		if c.pop() != 0 {
			return r.away(c, x.A)
		}
	case 0x0e:
		labels := append(slices.Clone(x.L), x.A)
		return r.away(c, labels[min(c.pop(), uint64(len(x.L)))])
	case 0x0f:
		return r.away(c, int64(len(c.scopes))-1)
	case 0x10, 0x11:
		c.pc = n.at + 1
		r.call(c, r.callee(c, x))
	default:
		r.plain(c, x)
	}
	return refOn()
}

func (r *refRunner) inst(c *refCall) impl.Instance { return r.s.Insts[r.s.Funcs[c.addr].Inst] }

// callee is the address of the function that is called.
func (r *refRunner) callee(c *refCall, x impl.Ins) int64 {
	inst := r.inst(c)
	if x.Op == 0x10 {
		return inst.Funcs[x.A]
	}
	elems, at := r.s.Tables[inst.Tables[0]].Elems, c.pop()
	if at >= uint64(len(elems)) {
		panic(refTrap(6))
	}
	if elems[at] == -1 {
		panic(refTrap(7))
	}
	if !same(r.s.Funcs[elems[at]].Type, inst.Types[x.A]) {
		panic(refTrap(8))
	}
	return elems[at]
}

func (r *refRunner) call(c *refCall, addr int64) {
	f := r.s.Funcs[addr]
	args := slices.Clone(c.take(len(f.Type.Params)))
	if f.Host != 0 {
		r.host(c, f.Host, args)
		return
	}
	r.begin(addr, args)
	c.push(r.finish(len(r.calls) - 1)...)
}

func (r *refRunner) host(c *refCall, host int64, args []uint64) {
	switch host {
	case 1, 2:
		if len(r.s.Out) == 1000 {
			panic(refTrap(10))
		}
		r.s.Out = append(r.s.Out, impl.Told{Host: host, Val: args[0]})
	case 3:
		if len(r.s.In) == 0 {
			r.s.In = []uint64{0}
		}
		c.push(r.s.In[0])
		r.s.In = r.s.In[1:]
	case 4:
		panic(refTrap(10))
	}
}

func (r *refRunner) begin(addr int64, args []uint64) {
	if len(r.calls) == 200 {
		panic(refTrap(9))
	}
	locals := append(args, make([]uint64, len(r.s.Funcs[addr].Locals))...)
	r.calls = append(r.calls, &refCall{addr: addr, locals: locals, scopes: make([]refScope, 1)})
}

// finish runs a call, and those that it waits for, to its end.
func (r *refRunner) finish(number int) []uint64 {
	c := r.calls[number]
	if number+1 < len(r.calls) {
		c.push(r.finish(number + 1)...)
	}
	tree, last := treeOf(r.s.Funcs[c.addr].Body, 0)
	out := r.list(c, tree, last, c.pc)
	if out.away < 0 {
		out.values = c.scopes[0].values
	}
	r.calls = r.calls[:number]
	return out.values
}

// plain does what concerns values alone.
func (r *refRunner) plain(c *refCall, x impl.Ins) {
	w := refTable[x.Op]
	switch w.name {
	case "nop":
	case "drop":
		c.pop()
	case "select":
		three := c.take(3)
		if three[2] == 0 {
			three[0] = three[1]
		}
		c.push(three[0])
	case "local.get":
		c.push(c.locals[x.A])
	case "local.set":
		c.locals[x.A] = c.pop()
	case "local.tee":
		c.locals[x.A] = c.pop()
		c.push(c.locals[x.A])
	case "global.get":
		c.push(r.s.Globals[r.inst(c).Globals[x.A]].Val)
	case "global.set":
		r.s.Globals[r.inst(c).Globals[x.A]].Val = c.pop()
	case "i32.const", "i64.const", "f32.const", "f64.const":
		c.push(x.V)
	default:
		if w.form == 5 || w.form == 6 {
			r.memory(c, x, w)
			return
		}
		got := refNumber(x.Op, slices.Clone(c.take(len(w.params))))
		if got.Trap != 0 {
			panic(refTrap(got.Trap))
		}
		c.push(got.Val)
	}
}

// refNumber asks the chapters 2 and 3.
func refNumber(op int64, args []uint64) impl.NumRes {
	if len(args) == 2 {
		if got := impl.Int2(op, args[0], args[1]); got.Ok {
			return got
		}
		return impl.Float2(op, args[0], args[1])
	}
	for _, do := range []func(op int64, a uint64) impl.NumRes{impl.Int1, impl.Float1} {
		if got := do(op, args[0]); got.Ok {
			return got
		}
	}
	return impl.Convert(op, args[0])
}

func (r *refRunner) memory(c *refCall, x impl.Ins, w opWant) {
	mem := &r.s.Mems[r.inst(c).Mems[0]]
	pages := uint64(len(mem.Data) >> 16)
	switch {
	case w.name == "memory.size":
		c.push(pages)
	case w.name == "memory.grow":
		more := c.pop()
		if sum := pages + more; sum > 4 || mem.Lim.HasMax && sum > uint64(mem.Lim.Max) {
			c.push(1<<32 - 1)
			return
		}
		mem.Data = append(mem.Data, pagesOf(int(more))...)
		c.push(pages)
	case strings.Contains(w.name, "load"):
		c.push(refExtended(refPlace(mem.Data, c.pop(), x, w), w))
	default:
		v, base := c.pop(), c.pop()
		copy(refPlace(mem.Data, base, x, w), little(v, 8))
	}
}

// refPlace has the bytes that a load or store reaches.
func refPlace(data []byte, base uint64, x impl.Ins, w opWant) []byte {
	from := int64(base) + x.B
	to := from + widthOf(w.name)
	if to > int64(len(data)) {
		panic(refTrap(5))
	}
	return data[from:to]
}

func refExtended(place []byte, w opWant) uint64 {
	var v uint64
	for _, b := range slices.Backward(place) {
		v = v<<8 | uint64(b)
	}
	if !strings.HasSuffix(w.name, "_s") {
		return v
	}
	width := map[bool]uint{true: 32, false: 64}[strings.HasPrefix(w.name, "i32")]
	return asVal(asSigned(v, uint(8*len(place))), width).Val
}

// state puts the values of all scopes of all calls one behind the other.
func (r *refRunner) state() impl.State {
	var t impl.State
	for _, c := range r.calls {
		f := impl.Frame{Func: c.addr, Pc: c.pc, Locals: slices.Clone(c.locals), Height: int64(len(t.Stack))}
		for i, scope := range c.scopes {
			if i > 0 {
				scope.label.Height = int64(len(t.Stack))
				f.Labels = append(f.Labels, scope.label)
			}
			t.Stack = append(t.Stack, scope.values...)
		}
		t.Frames = append(t.Frames, f)
	}
	return t
}

// load has the calls of a state that fits.
func (r *refRunner) load(t impl.State) {
	for i, f := range t.Frames {
		c := &refCall{addr: f.Func, pc: f.Pc, locals: slices.Clone(f.Locals)}
		to := int64(len(t.Stack))
		if i+1 < len(t.Frames) {
			to = t.Frames[i+1].Height
		}
		for _, label := range slices.Backward(f.Labels) {
			scope := refScope{label: label, values: slices.Clone(t.Stack[label.Height:to])}
			scope.label.Height = 0
			to = label.Height
			c.scopes = slices.Insert(c.scopes, 0, scope)
		}
		c.scopes = slices.Insert(c.scopes, 0, refScope{values: slices.Clone(t.Stack[f.Height:to])})
		r.calls = append(r.calls, c)
	}
}

// run goes on from the calls that there are.
func (r *refRunner) run() (res impl.RunRes) {
	defer func() {
		switch thrown := recover().(type) {
		case nil:
		case refStop:
			res.State = r.state()
		case refTrap:
			res.State = impl.State{Status: 2, Trap: int64(thrown)}
		default:
			panic(thrown)
		}
		res.Used, res.Store = r.used, r.s
	}()
	res.State = impl.State{Status: 1, Stack: r.finish(0)}
	return res
}

// refCopy has all that a run may change anew.
func refCopy(s impl.Store) impl.Store {
	s.Tables, s.Mems, s.Globals = copyOf(s.Tables), copyOf(s.Mems), slices.Clone(s.Globals)
	s.In, s.Out = slices.Clone(s.In), slices.Clone(s.Out)
	return s
}

// refInvoke runs a function that can be run, with arguments that fit.
func refInvoke(s impl.Store, f int64, args []uint64, fuel int64) impl.RunRes {
	r := &refRunner{s: refCopy(s), fuel: fuel}
	r.begin(f, slices.Clone(args))
	return r.run()
}

// refResume goes on from a state that fits.
func refResume(s impl.Store, t impl.State, fuel int64) impl.RunRes {
	if t.Status != 0 {
		return impl.RunRes{State: t, Store: s}
	}
	r := &refRunner{s: refCopy(s), fuel: fuel}
	r.load(t)
	return r.run()
}
