package tests

import (
	"fmt"
	"slices"
	"strings"
	"testing"

	"loop.example/s00119/impl"
)

// memWants has the loads or the stores.
func memWants(kind string) []opWant {
	var out []opWant
	for _, w := range lowWant() {
		if strings.Contains(w.name, kind) {
			out = append(out, w)
		}
	}
	slices.SortFunc(out, func(a, b opWant) int { return int(a.op - b.op) })
	return out
}

// loadStore loads from its argument; putStore stores its second argument there.
func loadStore(w opWant, offset int64) impl.Store {
	return stage("i32 -> "+typeWord(w.results[0]), "", fmt.Sprintf("local.get 0; %s 0 %d", w.name, offset))
}

func putStore(w opWant, offset int64) impl.Store {
	return stage("i32 "+typeWord(w.params[1])+" ->", "", fmt.Sprintf("local.get 0; local.get 1; %s 0 %d", w.name, offset))
}

// wantLoad reads from bytes that are written out: sign and zeros by hand.
func wantLoad(name string, place []byte) uint64 {
	var v uint64
	for i, b := range place {
		v += uint64(b) << (8 * i)
	}
	negative := place[len(place)-1] >= 0x80
	switch {
	case !negative || !strings.HasSuffix(name, "_s"):
		return v
	case strings.HasPrefix(name, "i32"):
		return (v | ^uint64(0)<<(8*len(place))) & 0xffffffff
	}
	return v | ^uint64(0)<<(8*len(place))
}

func checkLoad(t *testing.T, w opWant, s impl.Store, base, place int64) {
	t.Helper()
	got := checkRun(t, w.name, s, 4, uint64(base))
	width := widthOf(w.name)
	if place+width > int64(len(s.Mems[0].Data)) {
		if !same(got.State, impl.State{Status: impl.Trapped, Trap: impl.TrapMemory}) {
			t.Errorf("%s at %d: %+v", w.name, place, got.State)
		}
		return
	}
	if want := wantLoad(w.name, s.Mems[0].Data[place:place+width]); got.State.Status != impl.Done || !slices.Equal(got.State.Stack, ends(want)) {
		t.Errorf("%s at %d: %+v, want %#x", w.name, place, got.State, want)
	}
}

// memPlaces are the first, the last one and those beyond it, for a width.
func memPlaces(width, size int64) []int64 {
	return []int64{0, 1, 5, size/2 - 1, size - 2*width, size - width - 1, size - width, size - width + 1, size - 1, size, size + 1, 1 << 31, 1<<32 - width, 1<<32 - 1}
}

// bases splits a place into what is popped and what the instruction adds.
func bases(place int64) [][2]int64 {
	out := [][2]int64{{place, 0}, {0, place}}
	if place > 0 {
		out = append(out, [2]int64{place - 1, 1}, [2]int64{1, place - 1})
	}
	return out
}

func TestRunLoads(t *testing.T) {
	t.Parallel()
	for _, w := range memWants("load") {
		for _, place := range memPlaces(widthOf(w.name), 65536) {
			for _, split := range bases(place) {
				checkLoad(t, w, loadStore(w, split[1]), split[0], place)
			}
		}
	}
}

// TestRunSigns loads bytes of both signs, at every width.
func TestRunSigns(t *testing.T) {
	places := [][]byte{
		{0, 0, 0, 0, 0, 0, 0, 0}, {0x7f, 0x7f, 0x7f, 0x7f, 0x7f, 0x7f, 0x7f, 0x7f}, {0x80, 0, 0, 0, 0, 0, 0, 0}, {0x7f, 0x80, 0, 0x80, 0, 0, 0, 0x80},
		{0xff, 0x7f, 0xff, 0x7f, 0xff, 0xff, 0xff, 0x7f}, {0, 0x80, 0xff, 0xff, 0, 0, 0, 0}, {0, 0, 0, 0x80, 1, 0, 0, 0}, {0xff, 0xff, 0xff, 0xff, 0xff, 0xff, 0xff, 0xff},
		{1, 2, 3, 4, 5, 6, 7, 8}, {0xf1, 0xf2, 0xf3, 0xf4, 0xf5, 0xf6, 0xf7, 0xf8}, {0, 0, 0xa0, 0x7f, 0, 0, 0xf4, 0x7f},
	}
	for _, w := range memWants("load") {
		s := loadStore(w, 0)
		for _, place := range places {
			copy(s.Mems[0].Data[100:], place)
			checkLoad(t, w, s, 100, 100)
		}
	}
}

func checkPut(t *testing.T, w opWant, s impl.Store, base, place int64, v uint64) {
	t.Helper()
	before := slices.Clone(s.Mems[0].Data)
	got := checkRun(t, w.name, s, 4, uint64(base), v)
	want, width := slices.Clone(before), widthOf(w.name)
	state := impl.State{Status: impl.Done}
	if place+width > int64(len(want)) {
		state = impl.State{Status: impl.Trapped, Trap: impl.TrapMemory}
	} else {
		for i := range width {
			want[place+i] = byte(v >> (8 * i))
		}
	}
	if !same(got.State, state) || !slices.Equal(got.Store.Mems[0].Data, want) {
		t.Errorf("%s at %d: %+v, or other bytes", w.name, place, got.State)
	}
	if !slices.Equal(s.Mems[0].Data, before) {
		t.Errorf("%s at %d: the memory that was handed in is changed", w.name, place)
	}
}

func TestRunStores(t *testing.T) {
	t.Parallel()
	for _, w := range memWants("store") {
		values := ends(0xf1f2f3f4f5f6f7f8, 0, 0x0102030405060708)
		if w.params[1] == 0x7f || w.params[1] == 0x7d {
			values = ends(0xf5f6f7f8, 0, 0x05060708)
		}
		for i, place := range memPlaces(widthOf(w.name), 65536) {
			for j, split := range bases(place) {
				checkPut(t, w, putStore(w, split[1]), split[0], place, values[(i+j)%3])
			}
		}
	}
}

// TestRunBeyond32Bits: the sum of what is popped and B does not wrap round.
func TestRunBeyond32Bits(t *testing.T) {
	const top = 1<<32 - 1
	for _, split := range [][2]int64{{top, 1}, {1, top}, {top, top}, {1 << 31, 1 << 31}, {top, 2}, {top - 3, 4}, {top, 17}, {16, top - 15}} {
		for _, w := range memWants("load") {
			checkLoad(t, w, loadStore(w, split[1]), split[0], split[0]+split[1])
		}
		for _, w := range memWants("store") {
			checkPut(t, w, putStore(w, split[1]), split[0], split[0]+split[1], 77)
		}
	}
}

// withPages puts a memory of some pages, in which all bytes differ from those
// beside them, into the place of the stage's.
func withPages(s impl.Store, pages int64) impl.Store {
	s.Mems[0] = impl.MemInst{Data: pagesOf(int(pages))}
	for i := range s.Mems[0].Data {
		s.Mems[0].Data[i] = byte(i*7) ^ byte(i>>8)
	}
	return s
}

// TestRunPages: what lies across the ends of pages, and in a memory of none.
func TestRunPages(t *testing.T) {
	t.Parallel()
	for _, pages := range []int64{0, 2, 4} {
		places := func(width int64) []int64 {
			return []int64{0, 65536 - width, 65536 - width + 1, 65535, 65536, max(0, pages*65536-width), max(0, pages*65536-width+1), pages * 65536}
		}
		for _, w := range memWants("load") {
			for _, place := range places(widthOf(w.name)) {
				checkLoad(t, w, withPages(loadStore(w, 0), pages), place, place)
			}
		}
		for _, w := range memWants("store") {
			for _, place := range places(widthOf(w.name)) {
				checkPut(t, w, withPages(putStore(w, 0), pages), place, place, 0x81828384)
			}
		}
	}
}

// TestRunMixed stores by one width and loads by another.
func TestRunMixed(t *testing.T) {
	checkRunRows(t, []runRow{
		{"-> i32", "", "i32.const 4; i32.const 65535; i32.store 2 1; i32.const 0; i32.load8_s 0 6", nil, 0, ends(1<<32 - 1), 6},
		{"-> i64", "", "i32.const 4; i64.const -2; i64.store 3 0; i32.const 0; i64.load32_s 2 4", nil, 0, ends(1<<64 - 2), 6},
		{"-> i64", "", "i32.const 4; i64.const -2; i64.store 3 0; i32.const 0; i64.load32_u 2 4", nil, 0, ends(1<<32 - 2), 6},
		{"-> i64", "", "i32.const 0; i64.const -1; i64.store8 0 1; i32.const 0; i64.load 0 0", nil, 0, ends(0x070605040302ff00), 6},
		{"-> i64", "", "i32.const 0; i64.const -1; i64.store16 0 1; i32.const 0; i64.load 0 0", nil, 0, ends(0x0706050403ffff00), 6},
		{"-> i64", "", "i32.const 0; i64.const -1; i64.store32 0 1; i32.const 0; i64.load 0 0", nil, 0, ends(0x070605ffffffff00), 6},
		{"-> i64", "", "i32.const 0; i32.const 305419896; i32.store8 0 2; i32.const 0; i64.load 0 0", nil, 0, ends(0x0706050403780100), 6},
		{"-> i64", "", "i32.const 0; i32.const 305419896; i32.store16 0 2; i32.const 0; i64.load 0 0", nil, 0, ends(0x0706050456780100), 6},
		{"-> f32", "", "i32.const 8; f32.const 0xffa00001; f32.store 2 0; i32.const 8; f32.load 2 0", nil, 0, ends(0xffa00001), 6},
		{"-> f64", "", "i32.const 8; f64.const 0xfff4000000000001; f64.store 3 0; i32.const 8; f64.load 3 0", nil, 0, ends(0xfff4000000000001), 6},
	})
}

// TestRunGrow has memories of all sizes and limits, and grows them by all that
// there may be, and by more.
func TestRunGrow(t *testing.T) {
	for pages := range int64(5) {
		for _, lim := range []impl.Limits{limits(0), limits(pages), limitsTo(0, pages), limitsTo(pages, 4), limitsTo(0, 5), limitsTo(0, min(pages+1, 4)), limitsTo(0, 1<<32-1)} {
			for _, more := range []uint64{0, 1, 2, 3, 4, 5, 65536, 1<<31 - 1, 1 << 31, 1<<32 - 4, 1<<32 - 1} {
				s := stage("i32 -> i32", "", "local.get 0; memory.grow; memory.size; i32.const 1000; i32.mul; i32.add")
				s.Mems[0] = impl.MemInst{Lim: lim, Data: slices.Repeat([]byte{7}, int(pages)*65536)}
				most := uint64(4)
				if lim.HasMax {
					most = min(most, uint64(lim.Max))
				}
				first, then := uint64(1<<32-1), uint64(pages)
				if uint64(pages)+more <= most {
					first, then = uint64(pages), uint64(pages)+more
				}
				got := impl.Invoke(s, 4, ends(more), 100)
				mustSame(t, more, got, refInvoke(s, 4, ends(more), 100))
				if !slices.Equal(got.State.Stack, ends((first+1000*then)&(1<<32-1))) {
					t.Errorf("%d pages of %+v, %d more: %+v", pages, lim, more, got.State)
				}
				want := append(slices.Repeat([]byte{7}, int(pages)*65536), pagesOf(int(then)-int(pages))...)
				if !slices.Equal(got.Store.Mems[0].Data, want) || got.Store.Mems[0].Lim != lim {
					t.Errorf("%d pages of %+v, %d more: %d bytes, or other ones", pages, lim, more, len(got.Store.Mems[0].Data))
				}
			}
		}
	}
	checkRunRows(t, []runRow{
		{"-> i32", "", "memory.size", nil, 0, ends(1), 2},
		{"-> i32", "", "i32.const 1; memory.grow; drop; i32.const 1; memory.grow; drop; memory.size", nil, 0, ends(3), 8},
		{"-> i32", "", "i32.const 3; memory.grow", nil, 0, ends(1<<32 - 1), 3},
		{"-> i32", "", "i32.const 2; memory.grow; drop; i32.const 196604; i32.load 2 0", nil, 0, ends(0), 6},
		{"-> i32", "", "i32.const 2; memory.grow; drop; i32.const 196605; i32.load 2 0", nil, impl.TrapMemory, nil, 5},
	})
}

// TestRunSharedMemory: a memory that grows for one instance has grown for all.
func TestRunSharedMemory(t *testing.T) {
	lib := linked(t, impl.StoreNew(), moduleOf("type i32 -> i32; func 0; memory 1 3; export \"m\" memory 0; code; local.get 0; memory.grow; end"))
	s := linked(t, lib, moduleOf("type -> i32; import \"\" \"m\" memory 1 3; func 0; code; memory.size; end"), extern(2, 0))
	got := impl.Invoke(s, 4, ends(2), 10)
	if again := impl.Invoke(got.Store, 5, nil, 10); !slices.Equal(again.State.Stack, ends(3)) {
		t.Errorf("%+v", again.State)
	}
	if again := impl.Invoke(s, 5, nil, 10); !slices.Equal(again.State.Stack, ends(1)) {
		t.Errorf("the store that was handed in has grown: %+v", again.State)
	}
}
