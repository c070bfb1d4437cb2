package tests

import (
	"fmt"
	"slices"
	"strconv"
	"strings"
	"testing"

	"loop.example/s00119/impl"
)

// refFlat makes flat code in two goes: it counts what each instruction makes,
// so that all places are known, and then writes it down.
type refFlat struct {
	own    impl.FuncInst
	code   refCode
	places []int64 // for each instruction how much is made ahead of it; the last is the end's
}

// blocksAround has the blocks around an instruction, outermost first.
func blocksAround(nodes []refNode, pc int64) []refNode {
	for _, n := range nodes {
		if n.at < pc && pc < n.endAt {
			return slices.Concat([]refNode{n}, blocksAround(n.inner, pc), blocksAround(n.other, pc))
		}
	}
	return nil
}

// nodeAt is the block that begins at an instruction.
func nodeAt(nodes []refNode, pc int64) refNode {
	for _, n := range nodes {
		if n.at == pc {
			return n
		}
		if n.at < pc && pc < n.endAt {
			return nodeAt(slices.Concat(n.inner, n.other), pc)
		}
	}
	panic("no block begins here")
}

// out tells whether a label leads out of the function.
func (r refFlat) out(pc, label int64) bool { return int(label) == len(blocksAround(r.code.tree, pc)) }

func (r refFlat) made(pc int64) int64 {
	x := r.own.Body[pc]
	switch {
	case r.code.stacks[pc].Dead, slices.Contains([]int64{0x01, 0x02, 0x03, 0x0b}, x.Op):
		return 0
	case x.Op == 0x0d && r.out(pc, x.A):
		return 2
	}
	return 1
}

// height is that of the stack before an instruction.
func (r refFlat) height(pc int64) int64 { return int64(len(r.code.stacks[pc].Types)) }

func (r refFlat) results() int64 { return int64(len(r.own.Type.Results)) }

func (r refFlat) returns(height int64) impl.Flat {
	return impl.Flat{Op: 0x0f, T: impl.Jump{Keep: r.results(), Drop: height - r.results()}}
}

func (r refFlat) jump(pc, label, height int64) impl.Jump {
	if r.out(pc, label) {
		return impl.Jump{To: r.places[len(r.places)-1], Keep: r.results(), Drop: height - r.results()}
	}
	blocks := blocksAround(r.code.tree, pc)
	n := blocks[int64(len(blocks))-1-label]
	below := r.height(n.at)
	if n.x.Op == 0x04 {
		below--
	}
	to := impl.Jump{To: r.places[n.endAt], Keep: n.label().Arity}
	if n.x.Op == 0x03 {
		to.To = r.places[n.at]
	}
	to.Drop = height - to.Keep - below
	return to
}

// condition is where an if leads when its number is 0.
func (r refFlat) condition(pc int64) impl.Jump {
	n := nodeAt(r.code.tree, pc)
	if n.elseAt < 0 {
		return impl.Jump{To: r.places[n.endAt]}
	}
	return impl.Jump{To: r.places[n.elseAt+1]}
}

func (r refFlat) table(pc int64, x impl.Ins) impl.Flat {
	height := r.height(pc) - 1
	out := impl.Flat{Op: 0x0e, T: r.jump(pc, x.A, height)}
	for _, label := range x.L {
		out.L = append(out.L, r.jump(pc, label, height))
	}
	return out
}

// at has what an instruction makes.
func (r refFlat) at(pc int64) []impl.Flat {
	x, height := r.own.Body[pc], r.height(pc)
	one := impl.Flat{Op: x.Op, A: x.A, B: x.B, V: x.V}
	switch made := r.made(pc); {
	case made == 0:
		return nil
	case made == 2:
		return []impl.Flat{{Op: 0x04, T: impl.Jump{To: r.places[pc] + 2}}, r.returns(height - 1)}
	case x.Op == 0x0f, x.Op == 0x0c && r.out(pc, x.A):
		one = r.returns(height)
	case x.Op == 0x04:
		one = impl.Flat{Op: 0x04, T: r.condition(pc)}
	case x.Op == 0x05:
		blocks := blocksAround(r.code.tree, pc)
		one = impl.Flat{Op: 0x0c, T: impl.Jump{To: r.places[blocks[len(blocks)-1].endAt]}}
	case x.Op == 0x0c:
		one = impl.Flat{Op: 0x0c, T: r.jump(pc, x.A, height)}
	case x.Op == 0x0d:
		one = impl.Flat{Op: 0x0d, T: r.jump(pc, x.A, height-1)}
	case x.Op == 0x0e:
		one = r.table(pc, x)
	}
	return []impl.Flat{one}
}

// refFlatten is the flat code of a function that has a body.
func refFlatten(codes refCodes, addr int64) []impl.Flat {
	r := refFlat{own: codes.s.Funcs[addr], code: codes.of(addr)}
	var sum int64
	for pc := range r.own.Body {
		r.places = append(r.places, sum)
		sum += r.made(int64(pc))
	}
	var out []impl.Flat
	for pc := range r.own.Body {
		out = append(out, r.at(int64(pc))...)
	}
	return append(out, r.returns(r.results()))
}

// flatRun runs flat code, each function by one of Go's own calls.
type flatRun struct {
	refRunner
	codes refCodes
	flat  map[int64][]impl.Flat
}

func (r *flatRun) code(addr int64) []impl.Flat {
	if r.flat[addr] == nil {
		r.flat[addr] = refFlatten(r.codes, addr)
	}
	return r.flat[addr]
}

// jump has the place where the code goes on.
func (r *flatRun) jump(c *refCall, to impl.Jump) int64 {
	stay := slices.Clone(c.take(int(to.Keep)))
	c.take(int(to.Drop))
	c.push(stay...)
	return to.To
}

func (r *flatRun) function(addr int64, args []uint64) []uint64 {
	r.begin(addr, args)
	c := r.calls[len(r.calls)-1]
	for at := int64(0); ; {
		r.tick(c, at)
		x := r.code(addr)[at]
		at++
		switch x.Op {
		case 0x0c:
			at = r.jump(c, x.T)
		case 0x0d:
			if c.pop() != 0 {
				at = r.jump(c, x.T)
			}
		case 0x04:
			if c.pop() == 0 {
				at = r.jump(c, x.T)
			}
		case 0x0e:
			all := append(slices.Clone(x.L), x.T)
			at = r.jump(c, all[min(c.pop(), uint64(len(x.L)))])
		case 0x0f:
			r.jump(c, x.T)
			r.calls = r.calls[:len(r.calls)-1]
			return c.scopes[0].values
		case 0x10, 0x11:
			r.callFlat(c, r.callee(c, impl.Ins{Op: x.Op, A: x.A}))
		case 0x00:
			panic(refTrap(1))
		default:
			r.plain(c, impl.Ins{Op: x.Op, A: x.A, B: x.B, V: x.V})
		}
	}
}

func (r *flatRun) callFlat(c *refCall, addr int64) {
	f := r.s.Funcs[addr]
	args := slices.Clone(c.take(len(f.Type.Params)))
	if f.Host != 0 {
		r.host(c, f.Host, args)
		return
	}
	c.push(r.function(addr, args)...)
}

// refRunFlat runs a function that can be run, with arguments that fit, and
// tells how much of the fuel it has used.
func refRunFlat(s impl.Store, f int64, args []uint64, fuel int64) (res impl.FlatRes, used int64) {
	r := &flatRun{refRunner{s: refCopy(s), fuel: fuel}, codesOf(s), map[int64][]impl.Flat{}}
	defer func() {
		switch thrown := recover().(type) {
		case nil:
		case refStop:
		case refTrap:
			res = impl.FlatRes{Status: 2, Trap: int64(thrown)}
		default:
			panic(thrown)
		}
		res.Store, used = r.s, r.used
	}()
	res.Results = r.function(f, slices.Clone(args))
	res.Status = 1
	return res, used
}

// flats reads flat code, with a semicolon between: jump, jump_if and
// jump_unless with To, Keep and Drop; table with these of each Jump, T last,
// and a comma between; return with Keep and Drop; all others as asm does.
func flats(text string) []impl.Flat {
	ops := map[string]int64{"jump": 0x0c, "jump_if": 0x0d, "jump_unless": 0x04, "table": 0x0e}
	var out []impl.Flat
	for _, line := range strings.Split(text, ";") {
		word, rest, _ := strings.Cut(strings.TrimSpace(line), " ")
		if word == "return" {
			word, rest = "jump", "0 "+rest
			out = append(out, impl.Flat{Op: 0x0f, T: jumps(rest)[0]})
			continue
		}
		op, isJump := ops[word]
		if !isJump {
			x := asm(line)[0]
			out = append(out, impl.Flat{Op: x.Op, A: x.A, B: x.B, V: x.V})
			continue
		}
		all := jumps(rest)
		last := len(all) - 1
		out = append(out, impl.Flat{Op: op, T: all[last], L: all[:last]})
	}
	return out
}

func jumps(text string) []impl.Jump {
	var out []impl.Jump
	for _, part := range strings.Split(text, ",") {
		var to [3]int64
		for i, word := range strings.Fields(part) {
			n, err := strconv.ParseInt(word, 10, 64)
			if err != nil {
				panic("no number: " + text)
			}
			to[i] = n
		}
		out = append(out, impl.Jump{To: to[0], Keep: to[1], Drop: to[2]})
	}
	return out
}

// flatWay is what has to hold at each place of flat code that can be come to:
// one height, whatever way leads there.
type flatWay struct {
	s       impl.Store
	own     impl.FuncInst
	code    []impl.Flat
	heights map[int64]int64
}

// effect is how many values an instruction that is no jump takes and gives.
func (w flatWay) effect(x impl.Flat) (takes, gives int) {
	inst := w.s.Insts[w.own.Inst]
	switch x.Op {
	case 0x10:
		ty := w.s.Funcs[inst.Funcs[x.A]].Type
		return len(ty.Params), len(ty.Results)
	case 0x11:
		ty := inst.Types[x.A]
		return len(ty.Params) + 1, len(ty.Results)
	case 0x1a, 0x21, 0x24:
		return 1, 0
	case 0x1b:
		return 3, 1
	case 0x20, 0x23:
		return 0, 1
	case 0x22:
		return 1, 1
	}
	row := refTable[x.Op]
	return len(row.params), len(row.results)
}

// come comes to a place, and goes on from it if it is new.
func (w flatWay) come(to, height int64) error {
	if to < 0 || to >= int64(len(w.code)) {
		return fmt.Errorf("a way leads to %d", to)
	}
	if had, been := w.heights[to]; been {
		if had != height {
			return fmt.Errorf("the height at %d is %d and %d", to, had, height)
		}
		return nil
	}
	w.heights[to] = height
	return w.from(to, height)
}

func (w flatWay) jump(to impl.Jump, height int64) error {
	if to.Keep < 0 || to.Drop < 0 || to.Keep+to.Drop > height {
		return fmt.Errorf("%+v at height %d", to, height)
	}
	return w.come(to.To, height-to.Drop)
}

func (w flatWay) from(at, height int64) error {
	switch x := w.code[at]; x.Op {
	case 0x00:
		return nil
	case 0x0f:
		if x.T.To != 0 || int(x.T.Keep) != len(w.own.Type.Results) || x.T.Keep+x.T.Drop != height {
			return fmt.Errorf("return %+v at height %d", x.T, height)
		}
		return nil
	case 0x0c:
		return w.jump(x.T, height)
	case 0x0d, 0x04:
		if err := w.jump(x.T, height-1); err != nil {
			return err
		}
		return w.come(at+1, height-1)
	case 0x0e:
		for _, to := range append(slices.Clone(x.L), x.T) {
			if err := w.jump(to, height-1); err != nil {
				return err
			}
		}
		return nil
	default:
		takes, gives := w.effect(x)
		if int64(takes) > height {
			return fmt.Errorf("%x at height %d", x.Op, height)
		}
		return w.come(at+1, height-int64(takes)+int64(gives))
	}
}

// checkCode holds the flat code of a function against the other flattener of
// the tests, and against what the document says of all flat code.
func checkCode(t *testing.T, what any, codes refCodes, addr int64) {
	t.Helper()
	s := codes.s
	got, want := impl.Flatten(s, addr), refFlatten(codes, addr)
	if !same(got, want) {
		t.Fatalf("%v: function %d: %+v, want %+v", what, addr, got, want)
	}
	most := len(s.Funcs[addr].Body) + 1
	for _, x := range s.Funcs[addr].Body {
		if x.Op == 0x0d {
			most++
		}
	}
	last := int64(len(s.Funcs[addr].Type.Results))
	if len(got) > most || !same(got[len(got)-1], impl.Flat{Op: 0x0f, T: impl.Jump{Keep: last}}) {
		t.Fatalf("%v: function %d: %d instructions, at most %d, the last %+v", what, addr, len(got), most, got[len(got)-1])
	}
	for _, x := range got {
		if slices.Contains([]int64{0x01, 0x02, 0x03, 0x05, 0x0b}, x.Op) {
			t.Fatalf("%v: function %d has %x", what, addr, x.Op)
		}
	}
	w := flatWay{s: s, own: s.Funcs[addr], code: got, heights: map[int64]int64{}}
	if err := w.come(0, 0); err != nil {
		t.Fatalf("%v: function %d: %v: %+v", what, addr, err, got)
	}
}

// mustSameFlat holds an answer of RunFlat against another one.
func mustSameFlat(t *testing.T, what any, got, want impl.FlatRes) {
	t.Helper()
	if same(got, want) {
		return
	}
	stores := ""
	if !same(got.Store, want.Store) {
		stores = ", and the stores differ"
	}
	t.Fatalf("%v: Err %d, Status %d, Trap %d, %v, want Err %d, Status %d, Trap %d, %v%s", what,
		got.Err, got.Status, got.Trap, got.Results, want.Err, want.Status, want.Trap, want.Results, stores)
}

// asFlat is what RunFlat has to answer where Invoke is Done or Trapped.
func asFlat(r impl.RunRes) impl.FlatRes {
	return impl.FlatRes{Err: r.Err, Status: r.State.Status, Trap: r.State.Trap, Results: r.State.Stack, Store: r.Store}
}

// checkFlat holds promise 13 for a function, with all fuel, and with fuel for
// so many steps as are to be seen. It has the answer, and the fuel that is used.
func checkFlat(t *testing.T, what any, s impl.Store, f int64, args []uint64, seen int64) (impl.FlatRes, int64) {
	t.Helper()
	return checkFlatFuel(t, what, s, f, args, impl.FuelMax, seen)
}

// checkFlatFuel holds RunFlat against the other runner of the tests, and against
// Invoke.
func checkFlatFuel(t *testing.T, what any, s impl.Store, f int64, args []uint64, fuel, seen int64) (impl.FlatRes, int64) {
	t.Helper()
	codes := codesOf(s)
	for addr := int64(4); addr < int64(len(s.Funcs)); addr++ {
		checkCode(t, what, codes, addr)
	}
	before, given := copyOf(s), slices.Clone(args)
	got := impl.RunFlat(s, f, args, fuel)
	want, used := refRunFlat(s, f, args, fuel)
	mustSameFlat(t, what, got, want)
	whole := impl.Invoke(s, f, args, fuel)
	// A call takes no more than one step longer: by br_if out of the function.
	enough := whole.State.Status != impl.Running && whole.Used <= fuel/2
	if enough && got.Status == impl.Running {
		t.Fatalf("%v: the fuel does not suffice", what)
	}
	if whole.State.Status != impl.Running && got.Status != impl.Running {
		mustSameFlat(t, what, got, asFlat(whole))
	}
	for n := range used + 1 {
		if n >= seen && n+2 <= used {
			continue
		}
		part, _ := refRunFlat(s, f, args, n)
		mustSameFlat(t, fmt.Sprint(what, ", fuel ", n), impl.RunFlat(s, f, args, n), part)
		if short := part.Status == impl.Running; short != (n < used || got.Status == impl.Running) {
			t.Fatalf("%v: fuel %d of %d: %d", what, n, used, part.Status)
		}
	}
	if !same(s, before) || !slices.Equal(args, given) {
		t.Fatalf("%v: an argument was written to", what)
	}
	return got, used
}
