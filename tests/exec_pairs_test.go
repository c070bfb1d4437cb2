package tests

import (
	"slices"
	"testing"

	"loop.example/s00119/impl"
)

// wantPairs reads a closed list as a tree.
func wantPairs(body []impl.Ins) []impl.Pair {
	out := slices.Repeat([]impl.Pair{{End: -1, Else: -1}}, len(body))
	var put func(nodes []refNode)
	put = func(nodes []refNode) {
		for _, n := range nodes {
			out[n.at] = impl.Pair{End: n.endAt, Else: n.elseAt}
			put(n.inner)
			put(n.other)
		}
	}
	tree, _ := treeOf(body, 0)
	put(tree)
	return out
}

func TestPairsByHand(t *testing.T) {
	none := impl.Pair{End: -1, Else: -1}
	rows := []struct {
		body string
		want map[int]impl.Pair
	}{
		{"end", nil},
		{"nop; end", nil},
		{"block; end; end", map[int]impl.Pair{0: {End: 1, Else: -1}}},
		{"loop; nop; end; end", map[int]impl.Pair{0: {End: 2, Else: -1}}},
		{"if; end; end", map[int]impl.Pair{0: {End: 1, Else: -1}}},
		{"if; else; end; end", map[int]impl.Pair{0: {End: 2, Else: 1}}},
		{"if; nop; else; nop; nop; end; end", map[int]impl.Pair{0: {End: 5, Else: 2}}},
		{"block; block; end; end; end", map[int]impl.Pair{0: {End: 3, Else: -1}, 1: {End: 2, Else: -1}}},
		{"block; end; loop; end; end", map[int]impl.Pair{0: {End: 1, Else: -1}, 2: {End: 3, Else: -1}}},
		{"if; if; else; end; else; if; end; end; end", map[int]impl.Pair{0: {End: 7, Else: 4}, 1: {End: 3, Else: 2}, 5: {End: 6, Else: -1}}},
		{"if; block; if; else; end; end; else; loop; end; end; end", map[int]impl.Pair{0: {End: 9, Else: 6}, 1: {End: 5, Else: -1}, 2: {End: 4, Else: 3}, 7: {End: 8, Else: -1}}},
		{"if; if; end; end; end", map[int]impl.Pair{0: {End: 3, Else: -1}, 1: {End: 2, Else: -1}}},
	}
	for _, r := range rows {
		body := asm(r.body)
		want := slices.Repeat([]impl.Pair{none}, len(body))
		for at, pair := range r.want {
			want[at] = pair
		}
		if got := impl.Pairs(body); !slices.Equal(got, want) {
			t.Errorf("%s: %v, want %v", r.body, got, want)
		}
		if !slices.Equal(wantPairs(body), want) {
			t.Errorf("%s: the tests' own pairs are %v", r.body, wantPairs(body))
		}
	}
}

func TestPairsOfEveryShortList(t *testing.T) {
	everyShortList(func(ops []int64) {
		body := insList(ops...)
		var want []impl.Pair
		if wantClosed(ops) {
			want = wantPairs(body)
		}
		if got := impl.Pairs(body); !slices.Equal(got, want) {
			t.Fatalf("%x: %v, want %v", ops, got, want)
		}
	})
}

// TestPairsOfOthers: what has an instruction that is none is not closed.
func TestPairsOfOthers(t *testing.T) {
	for _, body := range [][]impl.Ins{
		nil, {}, {{Op: 0x0b}, {Op: 0x0b}}, {{Op: 0x06}, {Op: 0x0b}}, {{Op: -1}, {Op: 0x0b}}, {{Op: 0x02}, {Op: 0x0b}, {Op: 0x0b}}, {{Op: 0x0b, A: 1}},
		{{Op: 0x02, A: 0x40, B: 1}, {Op: 0x0b}, {Op: 0x0b}}, {{Op: 0x41, V: 1 << 32}, {Op: 0x0b}}, {{Op: 0x10b}},
	} {
		if got := impl.Pairs(body); len(got) != 0 {
			t.Errorf("%v: %v", body, got)
		}
	}
	k := newMaker(101)
	for range 2000 {
		body := k.list(k.Intn(60))
		before := copyOf(body)
		got := impl.Pairs(body)
		if !slices.Equal(got, wantPairs(body)) || !same(body, before) {
			t.Fatalf("%v: %v", body, got)
		}
		checkApart(t, body, got, impl.Pairs(body))
	}
	const deep = 30000
	got := impl.Pairs(slices.Concat(slices.Repeat(asm("if"), deep), slices.Repeat(asm("else; end"), deep), asm("end")))
	if len(got) != 3*deep+1 {
		t.Fatalf("%d pairs", len(got))
	}
	for i := range deep {
		if want := int64(3*deep - 2*i); got[i] != (impl.Pair{End: want - 1, Else: want - 2}) {
			t.Fatalf("%d: %v", i, got[i])
		}
	}
}
