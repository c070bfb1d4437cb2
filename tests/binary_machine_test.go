package tests

import (
	"unicode/utf8"

	"loop.example/s00119/impl"
)

// verdict is what Decode has to say of a text, but for the module.
type verdict struct {
	err int64
	at  int64
}

func decodeVerdict(b []byte) verdict {
	d := impl.Decode(b)
	return verdict{d.Err, d.At}
}

// task is one of the things that a machine has still to read: it takes a byte
// and tells whether that was its last; or it only does something, when all
// ahead of it is done.
type task struct {
	take func(c byte) bool
	do   func()
}

// note is an item that a machine has read whole when it had at bytes.
type note struct {
	what    string
	section int64
	n       int64 // its number, or of an entry or instruction the place of its first byte
	at      int64
}

// machine reads as chapter 5.2 says; it is handed one byte after the other, so
// that no fault can hang on a byte that is still to come.
type machine struct {
	notes []note
	at    int64 // bytes handed in
	fault verdict
	ends  []int64
	todo  []task // the next one last
	last  int64
	funcs int64
	codes bool
	nest  []byte // for each open block of a list whether it may have an else: 'e', or '.'
}

func newMachine() *machine {
	k := &machine{}
	var head []task
	for _, want := range []byte("\x00asm\x01\x00\x00\x00") {
		head = append(head, k.exactly(impl.BinMagic, want))
	}
	k.next(append(head, k.sections())...)
	return k
}

func (k *machine) fail(err int64) { k.fault = verdict{err, k.at} }

func (k *machine) say(what string, n int64) {
	k.notes = append(k.notes, note{what, k.last, n, k.at})
}

// whole says of each entry that it is read, when it is.
func (k *machine) whole(entry func() []task) func() []task {
	return func() []task {
		begin := k.at
		return append(entry(), task{do: func() { k.say("entry", begin) }})
	}
}

func (k *machine) saying(what string) task {
	return task{do: func() { k.say(what, 0) }}
}

func (k *machine) next(tasks ...task) {
	for i := range tasks {
		k.todo = append(k.todo, tasks[len(tasks)-1-i])
	}
}

func (k *machine) pop() task {
	last := len(k.todo) - 1
	t := k.todo[last]
	k.todo = k.todo[:last]
	return t
}

func (k *machine) settle() {
	for k.todo[len(k.todo)-1].take == nil {
		k.pop().do()
	}
}

func (k *machine) feed(c byte) {
	if k.fault.err != 0 {
		return
	}
	k.settle()
	k.at++
	if open := len(k.ends); open > 0 && k.at > k.ends[open-1] {
		k.fail(impl.BinSize)
		return
	}
	t := k.pop()
	if !t.take(c) {
		k.next(t)
	}
}

// now is the verdict if no byte follows.
func (k *machine) now() verdict {
	if k.fault.err != 0 {
		return k.fault
	}
	k.settle()
	if k.at < 8 || len(k.todo) > 1 {
		return verdict{impl.BinEnd, k.at}
	}
	if k.funcs > 0 && !k.codes {
		return verdict{impl.BinCount, k.at}
	}
	return verdict{}
}

func machineVerdict(b []byte) verdict {
	k := newMachine()
	for _, c := range b {
		k.feed(c)
	}
	return k.now()
}

func (k *machine) exactly(err int64, wants ...byte) task {
	return k.byteThen(err, wants, func(byte) {})
}

func (k *machine) byteThen(err int64, wants []byte, then func(c byte)) task {
	return task{take: func(c byte) bool {
		for _, want := range wants {
			if c == want {
				then(c)
				return true
			}
		}
		k.fail(err)
		return true
	}}
}

func (k *machine) valueType() task { return k.exactly(impl.BinForm, 0x7f, 0x7e, 0x7d, 0x7c) }

func (k *machine) leb(width int64, signed bool, then func(n int64)) task {
	var b []byte
	return task{take: func(c byte) bool {
		b = append(b, c)
		res := lebWant(b, 0, width, signed)
		switch res.Err {
		case impl.LebShort:
			return false
		case impl.LebOk:
			then(int64(res.Val))
		default:
			k.fail(impl.BinLeb)
		}
		return true
	}}
}

func (k *machine) u32(then func(n int64)) task { return k.leb(32, false, then) }

func (k *machine) index() task { return k.u32(func(int64) {}) }

func (k *machine) size(then func(n int64)) task {
	return k.u32(func(n int64) {
		if open := len(k.ends); open > 0 && k.at+n > k.ends[open-1] {
			k.fail(impl.BinSize)
			return
		}
		then(n)
	})
}

func (k *machine) bytes(n int64) task {
	return task{do: func() {
		if n > 0 {
			k.next(task{take: func(byte) bool { return true }}, k.bytes(n-1))
		}
	}}
}

func (k *machine) name() task {
	return k.size(func(n int64) {
		k.say("name", n)
		if n > 0 {
			k.next(k.characters(n))
		}
	})
}

func (k *machine) characters(left int64) task {
	var open []byte
	return task{take: func(c byte) bool {
		open = append(open, c)
		left--
		if utf8.FullRune(open) {
			if !utf8.Valid(open) {
				k.fail(impl.BinUtf8)
			}
			open = nil
		}
		if left == 0 && len(open) > 0 {
			k.fail(impl.BinUtf8)
		}
		return left == 0
	}}
}

func (k *machine) times(n int64, entry func() []task) task {
	return task{do: func() {
		if n > 0 {
			k.next(append(entry(), k.times(n-1, entry))...)
		}
	}}
}

func (k *machine) vector(entry func() []task) task {
	return k.u32(func(n int64) { k.next(k.times(n, entry)) })
}

func (k *machine) within(content func() []task) task {
	return k.size(func(n int64) {
		k.ends = append(k.ends, k.at+n)
		k.next(append(content(), k.leave())...)
	})
}

// leave waits for the byte that should not be there.
func (k *machine) leave() task {
	return task{do: func() {
		last := len(k.ends) - 1
		if k.at == k.ends[last] {
			k.ends = k.ends[:last]
			return
		}
		k.next(task{take: func(byte) bool {
			k.fail(impl.BinSize)
			return true
		}})
	}}
}

func (k *machine) list() task {
	return task{do: func() {
		k.nest = []byte{'.'}
		k.next(k.instruction())
	}}
}

func (k *machine) instruction() task {
	return task{take: func(op byte) bool {
		last := len(k.nest) - 1
		switch op {
		case 0x02, 0x03:
			k.nest = append(k.nest, '.')
		case 0x04:
			k.nest = append(k.nest, 'e')
		case 0x05:
			if k.nest[last] != 'e' {
				k.fail(impl.BinOp)
				return true
			}
			k.nest[last] = '.'
		case 0x0b:
			k.nest = k.nest[:last]
		}
		if len(k.nest) > 0 {
			k.next(k.instruction())
		}
		if op >= 0x02 && op <= 0x04 {
			k.say("block", int64(last)+1)
		}
		begin := k.at - 1
		k.next(task{do: func() { k.say("ins", begin) }})
		k.operands(op)
		return true
	}}
}

func (k *machine) operands(op byte) {
	switch {
	case op >= 0x02 && op <= 0x04:
		k.next(k.exactly(impl.BinForm, 0x40, 0x7f, 0x7e, 0x7d, 0x7c))
	case op == 0x0c || op == 0x0d || op == 0x10 || op >= 0x20 && op <= 0x24:
		k.next(k.index())
	case op == 0x0e:
		k.next(k.u32(func(n int64) {
			k.say("labels", n)
			k.next(k.times(n, func() []task { return []task{k.index()} }))
		}), k.index())
	case op == 0x11:
		k.next(k.index(), k.exactly(impl.BinForm, 0))
	case op >= 0x28 && op <= 0x3e:
		k.next(k.index(), k.index())
	case op == 0x3f || op == 0x40:
		k.next(k.exactly(impl.BinForm, 0))
	case op == 0x41:
		k.next(k.leb(32, true, func(int64) {}))
	case op == 0x42:
		k.next(k.leb(64, true, func(int64) {}))
	case op == 0x43:
		k.next(k.bytes(4))
	case op == 0x44:
		k.next(k.bytes(8))
	case op <= 0x01 || op == 0x05 || op == 0x0b || op == 0x0f || op == 0x1a || op == 0x1b || op >= 0x45 && op <= 0xbf:
	default:
		k.fail(impl.BinOp)
	}
}

func (k *machine) limits() task {
	return k.byteThen(impl.BinForm, []byte{0, 1}, func(c byte) {
		k.next(k.times(int64(c)+1, func() []task { return []task{k.index()} }))
	})
}

func (k *machine) table() []task { return []task{k.exactly(impl.BinForm, 0x70), k.limits()} }

func (k *machine) globalType() []task {
	return []task{k.valueType(), k.exactly(impl.BinForm, 0, 1)}
}

func (k *machine) imported() []task {
	kind := k.byteThen(impl.BinForm, []byte{0, 1, 2, 3}, func(c byte) {
		switch c {
		case 0:
			k.next(k.index())
		case 1:
			k.next(k.table()...)
		case 2:
			k.next(k.limits())
		case 3:
			k.next(k.globalType()...)
		}
	})
	return []task{k.name(), k.name(), kind}
}

func (k *machine) funcType() []task {
	results := k.u32(func(n int64) {
		if n > 1 {
			k.fail(impl.BinForm)
			return
		}
		k.next(k.times(n, func() []task { return []task{k.valueType()} }))
	})
	return []task{k.exactly(impl.BinForm, 0x60), k.vector(func() []task { return []task{k.valueType()} }), results}
}

func (k *machine) code() []task {
	return []task{k.within(func() []task {
		var sum int64
		group := func() []task {
			n := k.u32(func(n int64) {
				if sum += n; sum >= 1<<32 {
					k.fail(impl.BinLocals)
					return
				}
				k.say("locals", n)
			})
			return []task{n, k.valueType(), k.saying("group")}
		}
		groups := k.u32(func(n int64) {
			k.say("groups", n)
			k.next(k.times(n, group))
		})
		return []task{groups, k.list()}
	})}
}

func (k *machine) data() []task {
	return []task{k.exactly(impl.BinForm, 0), k.saying("segment"), k.list(), k.size(func(n int64) { k.next(k.bytes(n)) })}
}

func (k *machine) content(number byte) task {
	switch number {
	case 0:
		return task{do: func() {
			rest := task{do: func() { k.next(k.bytes(k.ends[0] - k.at)) }}
			k.next(k.name(), rest)
		}}
	case 1:
		return k.vector(k.whole(k.funcType))
	case 2:
		return k.vector(k.whole(k.imported))
	case 3:
		return k.u32(func(n int64) {
			k.funcs = n
			k.next(k.times(n, k.whole(func() []task { return []task{k.index()} })))
		})
	case 4:
		return k.vector(k.whole(k.table))
	case 5:
		return k.vector(k.whole(func() []task { return []task{k.limits()} }))
	case 6:
		return k.vector(k.whole(func() []task { return append(k.globalType(), k.list()) }))
	case 7:
		return k.vector(k.whole(func() []task { return []task{k.name(), k.exactly(impl.BinForm, 0, 1, 2, 3), k.index()} }))
	case 8:
		return task{do: func() { k.next(k.whole(func() []task { return []task{k.index()} })()...) }}
	case 9:
		return k.vector(func() []task {
			funcs := k.vector(func() []task { return []task{k.u32(func(n int64) { k.say("elem", n) })} })
			return []task{k.exactly(impl.BinForm, 0), k.saying("segment"), k.list(), funcs}
		})
	case 10:
		return k.u32(func(n int64) {
			k.codes = true
			if n != k.funcs {
				k.fail(impl.BinCount)
				return
			}
			k.next(k.times(n, k.code))
		})
	}
	return k.vector(k.data)
}

// sections is what is left when a module is whole.
func (k *machine) sections() task {
	return task{take: func(number byte) bool {
		switch {
		case number > 11:
			k.fail(impl.BinSection)
		case number != 0 && int64(number) <= k.last:
			k.fail(impl.BinOrder)
		}
		if number != 0 {
			k.last = int64(number)
		}
		k.next(k.within(func() []task { return []task{k.content(number)} }), k.sections())
		return true
	}}
}
