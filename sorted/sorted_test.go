package sorted_test

import (
	"slices"
	"testing"

	"alidade/sorted"
)

// item is compared by its key alone; its name tells alike ones apart.
type item struct{ key, name int }

func ahead(a, b item) bool { return a.key < b.key }

func below(a, b int) bool { return a < b }

func lists() [][]item {
	l := [][]item{nil, {{3, 0}}}
	seed := uint32(7)
	for n := 2; n < 40; n++ {
		var x []item
		for i := 0; i < n; i++ {
			seed = seed*1664525 + 1013904223
			x = append(x, item{int(seed>>20) % (n/2 + 1), i})
		}
		l = append(l, x)
	}
	return l
}

func inOrder(l []item) []item {
	x := slices.Clone(l)
	slices.SortStableFunc(x, func(a, b item) int { return a.key - b.key })
	return x
}

func TestSortAndIs(t *testing.T) {
	for _, l := range lists() {
		was := slices.Clone(l)
		w := inOrder(l)
		got := sorted.Sort(l, ahead)
		if !slices.Equal(got, w) || !slices.Equal(l, was) {
			t.Fatal(l, got)
		}
		if sorted.Is(l, ahead) != slices.Equal(l, w) || !sorted.Is(w, ahead) {
			t.Fatal("Is", l)
		}
		if len(got) > 0 {
			if got[0].name = -1; !slices.Equal(l, was) {
				t.Fatal("shared")
			}
		}
	}
	if !sorted.Is([]int{1, 1, 2}, below) || sorted.Is([]int{1, 2, 1}, below) || sorted.Is([]int{2, 1}, below) || !sorted.Is(nil, below) {
		t.Error("Is")
	}
}

func TestLookingUp(t *testing.T) {
	l := []int{1, 3, 3, 5}
	if sorted.First(l, 3, below) != 1 || sorted.Behind(l, 3, below) != 3 {
		t.Error("example")
	}
	for _, l := range lists() {
		l = inOrder(l)
		for k := -1; k < 25; k++ {
			first, behind := 0, 0
			for _, x := range l {
				if x.key < k {
					first++
				}
				if x.key <= k {
					behind++
				}
			}
			v := item{k, -5}
			if sorted.First(l, v, ahead) != first || sorted.Behind(l, v, ahead) != behind || sorted.Has(l, v, ahead) != (first < behind) {
				t.Fatal(l, k)
			}
			put := sorted.Put(l, v, ahead)
			if !slices.Equal(put, slices.Insert(slices.Clone(l), behind, v)) {
				t.Fatal("Put", l, k, put)
			}
			rest, ok := sorted.Cut(l, v, ahead)
			w := slices.Clone(l)
			if first < behind {
				w = slices.Delete(w, first, first+1)
			}
			if ok != (first < behind) || !slices.Equal(rest, w) {
				t.Fatal("Cut", l, k, rest, ok)
			}
			if back, ok := sorted.Cut(put, v, ahead); first == behind && (!ok || !slices.Equal(back, l)) {
				t.Fatal("Cut of Put", l, k)
			}
		}
	}
}

func TestMergeAndUnique(t *testing.T) {
	all := lists()
	for i, a := range all {
		b := all[(i*7+3)%len(all)]
		w := inOrder(append(slices.Clone(a), b...))
		got := sorted.Merge(inOrder(a), inOrder(b), ahead)
		if !slices.Equal(got, w) {
			t.Fatal("Merge", a, b, got)
		}
		if whole := sorted.Sort(append(slices.Clone(a), b...), ahead); !slices.Equal(whole, got) {
			t.Fatal("Sort of parts", whole)
		}
		var each []item
		for j, x := range w {
			if j == 0 || x.key != w[j-1].key {
				each = append(each, x)
			}
		}
		if got := sorted.Unique(w, ahead); !slices.Equal(got, each) {
			t.Fatal("Unique", w, got)
		}
	}
}

func TestNothingIsSharedOrChanged(t *testing.T) {
	room := make([]int, 4, 10)
	copy(room, []int{1, 3, 3, 5})
	spare := room[:10]
	answers := [][]int{sorted.Put(room[:3], 4, below), sorted.Put(room, 9, below), sorted.Merge(room[:2], room[2:], below), sorted.Merge(room, nil, below),
		sorted.Merge(nil, room, below), sorted.Sort(room, below), sorted.Sort(room[:1], below), sorted.Unique(room[:1], below), sorted.Unique(room, below)}
	for _, v := range []int{0, 1, 3, 5, 7} {
		l, _ := sorted.Cut(room, v, below)
		answers = append(answers, l)
	}
	for _, l := range answers {
		for i := range l {
			l[i] = -9
		}
		_ = append(l, -9)
	}
	if !slices.Equal(spare, []int{1, 3, 3, 5, 0, 0, 0, 0, 0, 0}) {
		t.Error(spare)
	}
}

func TestWrongLess(t *testing.T) {
	l := []int{4, 2, 7, 1}
	for _, less := range []func(a, b int) bool{nil, func(a, b int) bool { panic("no") }, func(a, b int) bool { return true }, func(a, b int) bool { return false }, func(a, b int) bool { return a%3 > b%2 }} {
		sorted.Is(l, less)
		sorted.First(l, 3, less)
		sorted.Behind(l, 3, less)
		sorted.Has(l, 3, less)
		sorted.Put(l, 3, less)
		sorted.Cut(l, 3, less)
		sorted.Merge(l, l, less)
		sorted.Sort(l, less)
		sorted.Unique(l, less)
	}
	if !slices.Equal(l, []int{4, 2, 7, 1}) {
		t.Error(l)
	}
}
