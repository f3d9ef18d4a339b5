package rtree_test

import (
	"math"
	"slices"
	"testing"

	"alidade/api"
	"alidade/box"
	"alidade/kern"
	"alidade/rtree"
)

const far = api.MaxCoord

func pt(id, x, y int) api.Point { return api.Point{ID: id, X: x, Y: y} }

type dice struct{ n uint32 }

func (d *dice) roll(most int) int {
	d.n = d.n*1664525 + 1013904223
	return int(d.n>>12) % most
}

func some(d *dice, n, wide int) []api.Point {
	var l []api.Point
	for len(l) < n {
		if p := pt(1+d.roll(5), d.roll(wide), d.roll(wide)); !slices.Contains(l, p) {
			l = append(l, p)
		}
	}
	return l
}

func made(t *testing.T, l ...api.Point) *rtree.Tree {
	t.Helper()
	r, e := rtree.New(l...)
	if r == nil || e != api.OK {
		t.Fatal(l, e)
	}
	return r
}

func idsIn(l []api.Point, b api.Box) []int {
	var ids []int
	for _, p := range l {
		if b.X1 <= p.X && p.X <= b.X2 && b.Y1 <= p.Y && p.Y <= b.Y2 {
			ids = append(ids, p.ID)
		}
	}
	slices.Sort(ids)
	return ids
}

// walk looks at a part of the tree of l, and at all that it leads to, and at how many parts each level tells.
func walk(t *testing.T, p rtree.Part, l []api.Point, b api.Box, level int, told []int) (ids []int) {
	t.Helper()
	told[level]++
	in, xs := 0, 0
	for _, q := range l {
		if b.Y1 <= q.Y && q.Y <= b.Y2 {
			in++
		}
		if b.X1 <= q.X && q.X <= b.X2 {
			xs++
		}
	}
	if p.Len() != in {
		t.Fatal("Len", p.Len(), in, l, b)
	}
	ids, n, next := p.Look(b)
	switch {
	case in == 0 || xs == 0:
		if len(ids) != 0 || n != 0 || len(next) != 0 {
			t.Fatal("nothing is to be told", l, b, ids, n, next)
		}
	case xs == len(l):
		if w := idsIn(l, b); !slices.Equal(ids, w) || n != len(w) || len(next) != 0 {
			t.Fatal("all is to be told", l, b, ids, n)
		}
	default:
		if len(ids) != 0 || n != 0 || len(next) != 2 {
			t.Fatal("both parts are to be told", l, b)
		}
		half := (len(l) + 1) / 2
		ids = append(walk(t, next[0], l[:half], b, level+1, told), walk(t, next[1], l[half:], b, level+1, told)...)
	}
	return ids
}

func check(t *testing.T, l []api.Point, d *dice) {
	t.Helper()
	was := slices.Clone(l)
	r := made(t, l...)
	if !slices.Equal(l, was) {
		t.Fatal("changed")
	}
	w := slices.Clone(l)
	slices.SortFunc(w, kern.Cmp)
	if r.Len() != len(l) || !slices.Equal(r.Points(), w) || !r.Check() {
		t.Fatal("Points", r.Points(), w, r.Check())
	}
	most := 1
	for n := 1; n < len(l); n *= 2 {
		most++
	}
	if len(l) == 0 {
		most = 0
	}
	if r.Levels() > most || len(l) > 0 && r.Levels() < 1 {
		t.Fatal("Levels", r.Levels(), most)
	}
	boxes := []api.Box{box.All(), {X1: 3, X2: 2, Y1: 0, Y2: 9}, {X1: 0, X2: 9, Y1: 4, Y2: 3}, {X1: math.MinInt, X2: math.MaxInt, Y1: math.MinInt, Y2: math.MaxInt}, {X1: math.MaxInt, X2: math.MinInt, Y1: math.MaxInt, Y2: math.MinInt}}
	for range 12 {
		x, y := d.roll(12)-1, d.roll(12)-1
		boxes = append(boxes, api.Box{X1: x, X2: x + d.roll(8) - 1, Y1: y, Y2: y + d.roll(8) - 1})
	}
	for _, b := range boxes {
		ids := idsIn(l, b)
		if got := r.Report(b); !slices.Equal(got, ids) || r.Count(b) != len(ids) {
			t.Fatal("Report", b, got, ids, r.Count(b))
		}
		if len(l) == 0 || b.Y1 > b.Y2 {
			continue
		}
		told := make([]int, most+1)
		got := walk(t, r.Begin(b), w, b, 0, told)
		slices.Sort(got)
		if !slices.Equal(got, ids) || slices.Max(told) > 4 {
			t.Fatal("Look", b, got, ids, told)
		}
	}
	if got := r.Points(); len(got) > 0 {
		if got[0].ID = -1; !slices.Equal(r.Points(), w) {
			t.Fatal("Points is not new")
		}
	}
}

func TestTrees(t *testing.T) {
	d := &dice{6}
	for n := range 70 {
		check(t, some(d, n, 4+n/6), d)
		check(t, some(d, n, 3+n/2), d)
	}
	var line, pile []api.Point
	for i := range 40 {
		line, pile = append(line, pt(1+i%3, i/3, i)), append(pile, pt(i+1, 4, 5))
	}
	check(t, line, d)
	check(t, pile, d)
	check(t, []api.Point{pt(1, far, far), pt(1, -far, -far), pt(1, far, -far), pt(api.MaxID, -far, far)}, d)
}

func TestExample(t *testing.T) {
	r := made(t, pt(1, 0, 0), pt(2, 5, 5))
	if n := r.Count(api.Box{X1: 0, X2: 5, Y1: 0, Y2: 4}); n != 1 {
		t.Error(n)
	}
	// Between both there is nothing: that is known at once.
	if _, _, next := r.Begin(box.All()).Look(api.Box{X1: 1, X2: 4, Y1: 0, Y2: 5}); len(next) != 0 {
		t.Error("no X lies there")
	}
}

func TestErrors(t *testing.T) {
	good, same := pt(1, 2, 3), pt(1, 2, 3)
	for _, c := range []struct {
		l []api.Point
		e api.Errno
	}{
		{[]api.Point{pt(0, 0, 0)}, api.ErrArg}, {[]api.Point{good, pt(1, far+1, 0)}, api.ErrArg}, {[]api.Point{good, same, pt(1, 0, -far-1)}, api.ErrArg},
		{[]api.Point{good, pt(2, 2, 3), same}, api.ErrDup}, {[]api.Point{good, pt(api.MaxID+1, 2, 3)}, api.ErrArg},
	} {
		if r, e := rtree.New(c.l...); r != nil || e != c.e {
			t.Error(c.l, e)
		}
	}
	made(t, pt(1, 2, 3), pt(2, 2, 3), pt(1, 3, 3), pt(1, 2, 4))
}

func TestNil(t *testing.T) {
	var r *rtree.Tree
	var zero rtree.Part
	for _, p := range []rtree.Part{zero, r.Begin(box.All()), made(t).Begin(box.All())} {
		ids, n, next := p.Look(box.All())
		if p.Len() != 0 || len(ids) != 0 || n != 0 || len(next) != 0 {
			t.Error("part")
		}
	}
	if r.Len() != 0 || len(r.Points()) != 0 || len(r.Report(box.All())) != 0 || r.Count(box.All()) != 0 || r.Levels() != 0 || r.Check() {
		t.Error("tree")
	}
	if e := made(t); e.Len() != 0 || e.Levels() != 0 || !e.Check() || e.Count(box.All()) != 0 {
		t.Error("empty")
	}
}
