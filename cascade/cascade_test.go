package cascade_test

import (
	"math"
	"slices"
	"testing"

	"alidade/api"
	"alidade/cascade"
	"alidade/kern"
)

func pt(id, x, y int) api.Point { return api.Point{ID: id, X: x, Y: y} }

type dice struct{ n uint32 }

func (d *dice) roll(most int) int {
	d.n = d.n*1664525 + 1013904223
	return int(d.n>>12) % most
}

// joined is an array of l, joined in halves.
func joined(l []api.Point) *cascade.Array {
	if len(l) == 0 {
		return nil
	}
	if len(l) == 1 {
		return cascade.Leaf(l[0])
	}
	return cascade.Join(joined(l[:(len(l)+2)/3]), joined(l[(len(l)+2)/3:]))
}

func points(a *cascade.Array) []api.Point {
	var l []api.Point
	for i := range a.Len() {
		e, _ := a.At(i)
		l = append(l, e.P)
	}
	return l
}

func counts(l []api.Point, y int) (place, past int) {
	for _, p := range l {
		if p.Y < y {
			place++
		}
		if p.Y <= y {
			past++
		}
	}
	return place, past
}

// look looks at an array joined of low and high: whether all leads where it should.
func look(t *testing.T, a, low, high *cascade.Array) {
	t.Helper()
	pl, ph, l := points(low), points(high), points(a)
	w := append(slices.Clone(pl), ph...)
	slices.SortStableFunc(w, kern.Up)
	if !slices.Equal(l, w) || a.Len() != len(w) || !a.Check() {
		t.Fatal("points", l, w, a.Check())
	}
	i, j := 0, 0
	for n := range l {
		e, ok := a.At(n)
		if !ok || e.Low != i || e.High != j || e.Low+e.High != n || a.Lead(n, false) != i || a.Lead(n, true) != j {
			t.Fatal("At", n, e, ok, i, j)
		}
		if i < len(pl) && pl[i] == l[n] {
			i++
		} else {
			j++
		}
	}
	if a.Lead(len(l), false) != low.Len() || a.Lead(len(l), true) != high.Len() {
		t.Fatal("Lead of all")
	}
	for _, n := range []int{-1, len(l) + 1, math.MinInt, math.MaxInt} {
		e, ok := a.At(n)
		if e != (cascade.Entry{}) || ok || a.Lead(n, false) != 0 || a.Lead(n, true) != 0 {
			t.Fatal("none at", n)
		}
	}
	if e, ok := a.At(len(l)); ok || e != (cascade.Entry{}) {
		t.Fatal("none at the end")
	}
	for _, y := range []int{math.MinInt, -1, 0, 1, 2, 3, 4, 5, 6, 7, 8, 9, 10, math.MaxInt} {
		place, past := counts(l, y)
		if a.Place(y) != place || a.Past(y) != past {
			t.Fatal("Place", y, a.Place(y), a.Past(y), place, past)
		}
		if a.Lead(place, false) != low.Place(y) || a.Lead(place, true) != high.Place(y) || a.Lead(past, false) != low.Past(y) || a.Lead(past, true) != high.Past(y) {
			t.Fatal("Lead of Place", y)
		}
	}
	for _, r := range [][2]int{{0, len(l)}, {-5, 100}, {1, 3}, {2, 2}, {3, 1}, {math.MinInt, math.MaxInt}, {math.MaxInt, math.MinInt}, {len(l) - 1, math.MaxInt}} {
		from, to := max(0, min(r[0], len(l))), max(0, min(r[1], len(l)))
		var ids []int
		for n := from; n < to; n++ {
			ids = append(ids, l[n].ID)
		}
		slices.Sort(ids)
		if got := a.IDs(r[0], r[1]); !slices.Equal(got, ids) {
			t.Fatal("IDs", r, got, ids)
		}
	}
}

func TestLeaf(t *testing.T) {
	a := cascade.Leaf(pt(7, 1, 3))
	e, ok := a.At(0)
	if a.Len() != 1 || e != (cascade.Entry{P: pt(7, 1, 3)}) || !ok || !a.Check() || a.Place(3) != 0 || a.Past(3) != 1 || a.Place(4) != 1 || a.Past(2) != 0 {
		t.Error("leaf")
	}
	for i := -2; i < 4; i++ {
		if a.Lead(i, false) != 0 || a.Lead(i, true) != 0 {
			t.Error("a leaf leads nowhere", i)
		}
	}
	if !slices.Equal(a.IDs(0, 1), []int{7}) || len(a.IDs(1, 1)) != 0 || len(a.IDs(1, 0)) != 0 {
		t.Error("IDs")
	}
	if _, ok := a.At(1); ok {
		t.Error("At")
	}
}

func TestJoin(t *testing.T) {
	a := cascade.Join(cascade.Leaf(pt(1, 0, 5)), cascade.Leaf(pt(2, 3, 2)))
	e, _ := a.At(0)
	f, _ := a.At(1)
	if e != (cascade.Entry{P: pt(2, 3, 2)}) || f != (cascade.Entry{P: pt(1, 0, 5), Low: 0, High: 1}) {
		t.Error(e, f)
	}
	d := &dice{4}
	for n := range 40 {
		for _, m := range []int{0, 1, 2, 5, 17} {
			var l []api.Point
			for range n + m {
				l = append(l, pt(1+d.roll(3), d.roll(3), d.roll(9)))
			}
			low, high := joined(l[:n]), joined(l[n:])
			if n+m > 0 {
				look(t, cascade.Join(low, high), low, high)
			}
		}
	}
}

func TestJoinOfNil(t *testing.T) {
	if cascade.Join(nil, nil) != nil {
		t.Error("two nil ones")
	}
	a := joined([]api.Point{pt(3, 0, 5), pt(1, 0, 4), pt(2, 9, 5)})
	look(t, cascade.Join(a, nil), a, nil)
	look(t, cascade.Join(nil, a), nil, a)
	look(t, cascade.Join(a, a), a, a)
	b := cascade.Join(cascade.Leaf(pt(1, 2, 3)), nil)
	if b.Lead(1, false) != 1 || b.Lead(1, true) != 0 || b.Lead(0, false) != 0 {
		t.Error("no leaf")
	}
}

func TestNothingIsShared(t *testing.T) {
	a := joined([]api.Point{pt(3, 0, 5), pt(1, 0, 4), pt(2, 9, 5)})
	l := a.IDs(0, 3)
	l[0] = -1
	if !slices.Equal(a.IDs(0, 3), []int{1, 2, 3}) {
		t.Error("IDs")
	}
}

func TestNil(t *testing.T) {
	var a *cascade.Array
	e, ok := a.At(0)
	if a.Len() != 0 || e != (cascade.Entry{}) || ok || a.Place(0) != 0 || a.Past(0) != 0 || a.Lead(0, false) != 0 || a.Lead(0, true) != 0 || len(a.IDs(0, 9)) != 0 || a.Check() {
		t.Error("nil")
	}
}
