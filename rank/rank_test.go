package rank_test

import (
	"math"
	"slices"
	"testing"

	"alidade/rank"
)

func look(t *testing.T, r *rank.Ranks, w []int) {
	t.Helper()
	if r.Len() != len(w) {
		t.Fatal("Len", r.Len(), w)
	}
	for i := -2; i < len(w)+2; i++ {
		v, ok := r.Value(i)
		if in := i >= 0 && i < len(w); ok != in || in && v != w[i] || !in && v != 0 {
			t.Fatal("Value", i, v, ok, w)
		}
	}
	probes := append([]int{math.MinInt, -100, -1, 0, 1, 2, 3, 4, 5, 6, 7, 50, math.MaxInt}, w...)
	for _, v := range probes {
		low, high := 0, 0
		for _, x := range w {
			if x < v {
				low++
			}
			if x <= v {
				high++
			}
		}
		has := low < high
		i, ok := r.Rank(v)
		if ok != has || has && i != low || !has && i != 0 || r.Low(v) != low || r.High(v) != high || r.Has(v) != has {
			t.Fatal("Rank", v, i, ok, w)
		}
		cell := 2 * low
		if has {
			cell++
		}
		if r.Cell(v) != cell {
			t.Fatal("Cell", v, r.Cell(v), w)
		}
		for _, u := range probes {
			from, to, ok := r.Cells(v, u)
			if v > u {
				if ok || from != 0 || to != 0 {
					t.Fatal("Cells turned", v, u)
				}
			} else if !ok || from != r.Cell(v) || to != r.Cell(u) {
				t.Fatal("Cells", v, u, from, to)
			}
			if ok && r.Has(v, u) {
				for _, x := range probes {
					if (v <= x && x <= u) != (from <= r.Cell(x) && r.Cell(x) <= to) {
						t.Fatal("from", v, "to", u, x)
					}
				}
			}
		}
	}
}

func TestRanks(t *testing.T) {
	look(t, nil, nil)
	look(t, rank.New(), nil)
	for _, l := range [][]int{{5, 1, 5}, {0}, {3, 3, 3}, {math.MaxInt, math.MinInt, 0}, {9, -4, 7, 7, 2, -4, 50, 6}} {
		was := slices.Clone(l)
		r := rank.New(l...)
		w := slices.Compact(slices.Sorted(slices.Values(l)))
		look(t, r, w)
		if !slices.Equal(l, was) {
			t.Fatal("changed", l)
		}
		for i := range l {
			l[i] = 1000
		}
		look(t, r, w)
	}
	r := rank.New(5, 1, 5)
	if r.Len() != 2 || r.Cell(1) != 1 || r.Cell(3) != 2 || r.Cell(5) != 3 || r.Cell(9) != 4 || r.Cell(0) != 0 {
		t.Error("example")
	}
}

func TestWithAndHas(t *testing.T) {
	r := rank.New(4, 2)
	more := []int{7, 2, 3}
	s := r.With(more...)
	more[0] = 50
	look(t, s, []int{2, 3, 4, 7})
	look(t, r, []int{2, 4})
	look(t, r.With(), []int{2, 4})
	look(t, (*rank.Ranks)(nil).With(3, 1, 3), []int{1, 3})
	if !s.Has() || !s.Has(7, 2, 3, 4) || s.Has(7, 5) || s.Has(0) || !(*rank.Ranks)(nil).Has() || (*rank.Ranks)(nil).Has(0) {
		t.Error("Has")
	}
}
