package tests

import (
	"fmt"
	"slices"
	"testing"

	"loop.example/s00119/impl"
)

// inParts runs a function with some fuel, in parts of as many steps as next
// says; each state between them is written down, read, and gone on with. It has
// the last answer, with Used in all.
func inParts(t *testing.T, what any, s impl.Store, f int64, args []uint64, fuel int64, next func() int64) impl.RunRes {
	t.Helper()
	part := impl.Invoke(s, f, args, min(next(), fuel))
	used := part.Used
	for part.Err == 0 && part.State.Status == impl.Running && used < fuel {
		part = impl.Resume(part.Store, written(t, what, part.State), min(next(), fuel-used))
		used += part.Used
	}
	if part.Err == 0 {
		end := written(t, what, part.State)
		mustSame(t, what, impl.Resume(part.Store, end, 0), impl.RunRes{State: part.State, Store: part.Store})
	}
	part.Used = used
	return part
}

// checkInParts cuts a run at every step, at every second one, .. and once at
// each place; a long run not so often.
func checkInParts(t *testing.T, what any, s impl.Store, f int64, args ...uint64) impl.RunRes {
	t.Helper()
	whole := impl.Invoke(s, f, args, impl.FuelMax)
	mustSame(t, what, whole, refInvoke(s, f, args, impl.FuelMax))
	for _, step := range []int64{1, 2, 3, 7, 50, 1000} {
		if whole.Used/step > 400 {
			continue
		}
		got := inParts(t, what, s, f, args, impl.FuelMax, func() int64 { return step })
		mustSame(t, fmt.Sprint(what, " by ", step), got, whole)
	}
	every := max(1, whole.Used/100)
	for cut := int64(0); cut <= whole.Used; cut += every {
		first := true
		got := inParts(t, what, s, f, args, impl.FuelMax, func() int64 {
			if first {
				first = false
				return cut
			}
			return impl.FuelMax
		})
		mustSame(t, fmt.Sprint(what, " cut at ", cut), got, whole)
	}
	return whole
}

// TestImageRuns: results, told numbers, memory and globals come out the same
// when the run is written down on its way.
func TestImageRuns(t *testing.T) {
	t.Parallel()
	factorial := stage("i64 -> i64", "", "local.get 0; i64.eqz; if i64; i64.const 1; else; local.get 0; local.get 0; i64.const 1; i64.sub; call 4; i64.mul; end")
	if got := checkInParts(t, "factorial", factorial, 4, 20); !slices.Equal(got.State.Stack, ends(2432902008176640000)) {
		t.Errorf("%+v", got.State)
	}
	busy := stage("i32 -> f64", " 2 f32 1 i64", "block; loop; local.get 0; i32.eqz; br_if 1; local.get 0; call 0; call 2; i32.const 40; i32.add; call 0; "+
		"i64.const -5; call 1; i32.const 1; memory.grow; drop; local.get 0; local.get 0; i32.store8 0 9; i32.const 2; call_indirect 4; "+
		"local.get 0; i32.const 1; i32.sub; local.set 0; br 0; end; end; f32.const 0x7fc00001; f64.const 0x8000000000000000; i32.const -1; i64.const -1; call 7")
	busy.In = ends(1, 2, 3)
	got := checkInParts(t, "busy", busy, 4, 6)
	if !slices.Equal(got.State.Stack, ends(1<<63)) || len(got.Store.Out) != 18 || got.Store.Globals[0].Val != 46 || len(got.Store.Mems[0].Data) != 3<<16 || len(got.Store.In) != 0 {
		t.Errorf("%+v: %+v", got.State, shown(got.Store))
	}
	if got := checkInParts(t, "deepest", deep("call 4", "nop"), 4, 199); !slices.Equal(got.State.Stack, ends(204)) {
		t.Errorf("%+v", got.State)
	}
	if got := checkInParts(t, "too deep", deep("call 4", "nop"), 4, 200); got.State.Trap != impl.TrapDepth {
		t.Errorf("%+v", got.State)
	}
	if got := checkInParts(t, "no result", stage("->", "", "nop"), 4); got.State.Status != impl.Done || len(got.State.Stack) != 0 {
		t.Errorf("%+v", got.State)
	}
}

// TestImageTraps: a run that traps does so in the same way.
func TestImageTraps(t *testing.T) {
	t.Parallel()
	for trap, bodies := range trapBodies() {
		for _, body := range bodies {
			s := stage("->", "", "i32.const 9; call 0; i64.const 5; block; loop; i32.const 0; br_if 0; end; end; drop; "+body)
			got := checkInParts(t, body, s, 4)
			image := impl.PutState(got.State)
			if want := []byte{0x53, 1, 2, byte(trap), 0, 0}; !slices.Equal(image, want) {
				t.Errorf("%s: % x, want % x", body, image, want)
			}
		}
	}
}

// TestImageFuel: a run that does not end uses all the fuel that is to be had.
func TestImageFuel(t *testing.T) {
	t.Parallel()
	k := newMaker(121)
	s := stage("i32 -> i32", " 1 i64", "loop; local.get 1; i64.const 3; i64.add; local.set 1; i32.const 1; call 6; if; br 1; end; end; i32.const 1")
	for _, fuel := range []int64{0, 1, 2, 99, 1000, impl.FuelMax} {
		whole := impl.Invoke(s, 4, ends(5), fuel)
		if whole.Used != fuel || whole.State.Status != impl.Running {
			t.Fatalf("Used %d, %+v", whole.Used, whole.State)
		}
		for _, most := range []int64{1 + fuel/100, 1 + fuel/9} {
			mustSame(t, fuel, inParts(t, fuel, s, 4, ends(5), fuel, func() int64 { return k.Int63n(most + 1) }), whole)
		}
	}
}

// TestImagePromise runs many functions in parts, of any numbers of steps.
func TestImagePromise(t *testing.T) {
	t.Parallel()
	k := newMaker(122)
	status := map[int64]int{}
	for i := range 250 {
		s := k.runStore()
		if i%4 == 0 {
			s = k.linkedStore()
		}
		for f := int64(4); f < int64(len(s.Funcs)); f++ {
			args := k.values(s.Funcs[f].Type.Params)
			whole := impl.Invoke(s, f, args, 300)
			status[whole.State.Status]++
			for _, most := range []int64{0, 20, 300} {
				mustSame(t, "made", inParts(t, "made", s, f, args, 300, func() int64 { return 1 + k.Int63n(most+1) }), whole)
			}
		}
	}
	t.Logf("status: %v", status)
	for _, want := range []int64{0, 1, 2} {
		if status[want] < 20 {
			t.Errorf("status %d: %d runs", want, status[want])
		}
	}
}

// TestImagesOfStates: states at every place of made functions, and such that
// fit nothing, as they were changed anywhere.
func TestImagesOfStates(t *testing.T) {
	t.Parallel()
	k := newMaker(123)
	none := 0
	for range 30 {
		s := k.runStore()
		codes := codesOf(s)
		for addr := int64(4); addr < int64(len(s.Funcs)); addr++ {
			for _, pc := range codes.of(addr).liveAt(s.Funcs[addr].Body, false) {
				state := k.stateAt(s, codes, addr, pc)
				back := written(t, "made", state)
				mustSame(t, "made", impl.Resume(s, back, 5), impl.Resume(s, state, 5))
				for range 4 {
					if len(checkImage(t, "spoiled", spoiled(k, copyOf(state)))) == 0 {
						none++
					}
				}
			}
		}
	}
	if none < 100 {
		t.Errorf("%d states without an image", none)
	}
}

// TestImagesSpoiled: bytes of images are changed, taken out, put in and moved.
func TestImagesSpoiled(t *testing.T) {
	t.Parallel()
	k := newMaker(124)
	seen := map[string]int{}
	for range 3000 {
		state := spoiled(k, fitsState())
		image := checkImage(t, "made", state)
		for range 20 {
			b := slices.Clone(image)
			for range 1 + k.Intn(3) {
				at := k.Intn(len(b) + 1)
				more := []byte{pick(k, []byte{0, 1, 2, 0x0f, 0x7f, 0x80, 0xff, byte(k.Intn(256))})}
				switch to := min(len(b), at+1+k.Intn(9)); k.Intn(4) {
				case 0:
					b = slices.Insert(b, at, more...)
				case 1:
					b = slices.Delete(b, at, to)
				case 2:
					b = append(b, b[at:to]...)
				default:
					b = slices.Replace(b, at, min(len(b), at+1), more...)
				}
			}
			seen[checkRead(t, "spoiled", b)]++
		}
	}
	t.Logf("seen: %v", seen)
	if seen[""] < 1000 {
		t.Errorf("%d are images", seen[""])
	}
}
