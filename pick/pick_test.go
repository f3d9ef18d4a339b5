package pick_test

import (
	"slices"
	"testing"

	"alidade/api"
	"alidade/pick"
)

// item is compared by its key alone; its name tells alike ones apart.
type item struct{ key, name int }

func ahead(a, b item) bool { return a.key < b.key }

func below(a, b int) bool { return a < b }

func lists() [][]item {
	l := [][]item{nil, {{3, 0}}}
	seed := uint32(11)
	for n := 2; n < 160; n += 1 + n/12 {
		for _, keys := range []int{1, 2, n/3 + 1, 4 * n} {
			var x []item
			for i := 0; i < n; i++ {
				seed = seed*1664525 + 1013904223
				x = append(x, item{int(seed>>12) % keys, i})
			}
			l = append(l, x)
		}
	}
	return l
}

func inOrder(l []item) []item {
	x := slices.Clone(l)
	slices.SortStableFunc(x, func(a, b item) int { return a.key - b.key })
	return x
}

func TestNthAndMedian(t *testing.T) {
	if v, ok := pick.Nth([]int{5, 1, 4}, 1, below); v != 4 || !ok {
		t.Error(v, ok)
	}
	for _, l := range lists() {
		was, w := slices.Clone(l), inOrder(l)
		for k := -2; k < len(l)+3; k++ {
			v, ok := pick.Nth(l, k, ahead)
			if k < 0 || k >= len(l) {
				if ok || v != (item{}) {
					t.Fatal(k, v, ok)
				}
			} else if !ok || v != w[k] {
				t.Fatal(l, k, v, w[k])
			}
		}
		v, ok := pick.Median(l, ahead)
		if ok != (len(l) > 0) || ok && v != w[len(l)/2] || !ok && v != (item{}) {
			t.Fatal("Median", l, v)
		}
		if !slices.Equal(l, was) {
			t.Fatal("changed")
		}
	}
	if v, ok := pick.Nth([]int{1}, -1<<63, below); v != 0 || ok {
		t.Error("far", v)
	}
	if v, ok := pick.Nth([]int{1}, 1<<62, below); v != 0 || ok {
		t.Error("far", v)
	}
}

func TestParts(t *testing.T) {
	for _, l := range lists() {
		for _, k := range []int{-1, 0, 1, 2, 5, 9, 1000} {
			var a, b, c []item
			for _, x := range l {
				switch {
				case x.key < k:
					a = append(a, x)
				case x.key == k:
					b = append(b, x)
				default:
					c = append(c, x)
				}
			}
			low, like, high := pick.Parts(l, item{k, -1}, ahead)
			if !slices.Equal(low, a) || !slices.Equal(like, b) || !slices.Equal(high, c) {
				t.Fatal(l, k, low, like, high)
			}
		}
	}
}

func whole(l []item) []item {
	x := slices.Clone(l)
	slices.SortFunc(x, func(a, b item) int {
		if a.key != b.key {
			return a.key - b.key
		}
		return a.name - b.name
	})
	return x
}

func TestSplitAndLeast(t *testing.T) {
	for _, l := range lists() {
		was, w := slices.Clone(l), inOrder(l)
		for k := -2; k < len(l)+3; k++ {
			low, mid, high, ok := pick.Split(l, k, ahead)
			if k < 0 || k >= len(l) {
				if ok || len(low)+len(high) != 0 || mid != (item{}) {
					t.Fatal("Split of none", k)
				}
			} else if !ok || mid != w[k] || !slices.Equal(whole(low), w[:k]) || !slices.Equal(whole(high), w[k+1:]) {
				t.Fatal("Split", l, k, low, mid, high)
			}
			for i := range low {
				low[i] = item{-9, -9}
			}
			for i := range high {
				high[i] = item{-9, -9}
			}
			least := pick.Least(l, k, ahead)
			if !slices.Equal(least, w[:max(0, min(k, len(l)))]) {
				t.Fatal("Least", l, k, least)
			}
			for i := range least {
				least[i] = item{-9, -9}
			}
			if !slices.Equal(l, was) {
				t.Fatal("shared")
			}
		}
	}
}

func TestSteps(t *testing.T) {
	for n, w := range map[int]int{-1 << 63: 0, -1: 0, 0: 0, 1: 250, 2: 300, 1000: 50200, api.MaxList: 50*api.MaxList + 200, api.MaxList + 1: 50*api.MaxList + 200, 1 << 62: 50*api.MaxList + 200} {
		if pick.Steps(n) != w {
			t.Error(n, pick.Steps(n))
		}
	}
}

// shapes are lists that part badly at one pivot or another.
func shapes(n int) [][]int {
	rise, fall, pipe, saw, same, two, mixed := make([]int, n), make([]int, n), make([]int, n), make([]int, n), make([]int, n), make([]int, n), make([]int, n)
	seed := uint32(n)
	for i := range rise {
		seed = seed*1664525 + 1013904223
		rise[i], fall[i], pipe[i], saw[i], two[i], mixed[i] = i, -i, min(i, n-i), i%7, i%2, int(seed>>8)
	}
	return [][]int{rise, fall, pipe, saw, same, two, mixed}
}

func TestNthIsNoSort(t *testing.T) {
	for _, n := range []int{1, 2, 5, 10, 11, 24, 25, 60, 200, 1000, 5000, 30000} {
		for s, l := range shapes(n) {
			w := slices.Sorted(slices.Values(l))
			for _, k := range []int{0, 1, n / 7, n / 2, n - 2, n - 1} {
				if k < 0 || k >= n {
					continue
				}
				calls := 0
				v, ok := pick.Nth(l, k, func(a, b int) bool { calls++; return a < b })
				if !ok || v != w[k] || calls > pick.Steps(n) {
					t.Fatal(n, s, k, v, calls)
				}
			}
		}
	}
}

// TestNthAgainstAFoe lets an adversary decide, as late as it can, how elements compare: pivots turn out as bad as can be.
func TestNthAgainstAFoe(t *testing.T) {
	for _, n := range []int{30, 100, 1000, 4000} {
		for _, k := range []int{0, n / 2, n - 1} {
			l, rank := make([]int, n), make([]int, n)
			for i := range l {
				l[i], rank[i] = i, n
			}
			calls, solid, candidate := 0, 0, 0
			less := func(a, b int) bool {
				calls++
				if rank[a] == n && rank[b] == n {
					if a == candidate {
						rank[a] = solid
					} else {
						rank[b] = solid
					}
					solid++
				}
				if rank[a] == n {
					candidate = a
				} else if rank[b] == n {
					candidate = b
				}
				return rank[a] < rank[b]
			}
			if _, ok := pick.Nth(l, k, less); !ok || calls > pick.Steps(n) {
				t.Error(n, k, calls, pick.Steps(n))
			}
		}
	}
}

func TestWrongLess(t *testing.T) {
	l := make([]int, 100)
	for i := range l {
		l[i] = i * 37 % 101
	}
	was := slices.Clone(l)
	for _, less := range []func(a, b int) bool{nil, func(a, b int) bool { panic("no") }, func(a, b int) bool { return true }, func(a, b int) bool { return false }, func(a, b int) bool { return a%3 > b%2 }} {
		for _, k := range []int{0, 50, 99} {
			pick.Nth(l, k, less)
			pick.Split(l, k, less)
			pick.Least(l, k, less)
		}
		pick.Median(l, less)
		pick.Parts(l, 3, less)
	}
	if !slices.Equal(l, was) {
		t.Error("changed")
	}
}
