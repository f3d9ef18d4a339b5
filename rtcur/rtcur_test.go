package rtcur_test

import (
	"math"
	"slices"
	"testing"

	"alidade/api"
	"alidade/box"
	"alidade/rtcur"
	"alidade/rtree"
)

func pt(id, x, y int) api.Point { return api.Point{ID: id, X: x, Y: y} }

type dice struct{ n uint32 }

func (d *dice) roll(most int) int {
	d.n = d.n*1664525 + 1013904223
	return int(d.n>>12) % most
}

func tree(t *testing.T, d *dice, n, wide int) *rtree.Tree {
	t.Helper()
	var l []api.Point
	for len(l) < n {
		if p := pt(1+d.roll(5), d.roll(wide), d.roll(wide)); !slices.Contains(l, p) {
			l = append(l, p)
		}
	}
	r, e := rtree.New(l...)
	if e != api.OK {
		t.Fatal(e)
	}
	return r
}

// found is the ids each step finds, in the order in which parts are to be looked at.
func found(p rtree.Part, b api.Box, l [][]int) [][]int {
	ids, _, next := p.Look(b)
	l = append(l, ids)
	for _, q := range next {
		l = found(q, b, l)
	}
	return l
}

func run(t *testing.T, c *rtcur.Cursor, part int, each [][]int, counts bool) {
	t.Helper()
	steps := 0
	var ids []int
	for !c.Done() {
		if n, done := c.Step(0); n != 0 || done {
			t.Fatal("no step")
		}
		if n, done := c.Step(-3); n != 0 || done {
			t.Fatal("no step")
		}
		n, done := c.Step(part)
		if n != min(part, len(each)-steps) || done != (steps+n == len(each)) || done != c.Done() {
			t.Fatal("Step", n, done, steps, len(each))
		}
		for _, l := range each[steps : steps+n] {
			ids = append(ids, l...)
		}
		slices.Sort(ids)
		steps += n
		w := ids
		if counts {
			w = nil
		}
		if c.Steps() != steps || !slices.Equal(c.IDs(), w) || c.N() != len(ids) {
			t.Fatal("by then", c.Steps(), c.IDs(), w, c.N())
		}
	}
	if n, done := c.Step(7); n != 0 || !done || steps != len(each) {
		t.Fatal("done", n, done, steps)
	}
}

func TestInWhateverSteps(t *testing.T) {
	d := &dice{5}
	for round := range 40 {
		var l []*rtree.Tree
		for range round % 6 {
			switch n := d.roll(40); {
			case n < 4:
				l = append(l, nil)
			default:
				l = append(l, tree(t, d, n-4, 12))
			}
		}
		was := slices.Clone(l)
		for range 6 {
			x, y := d.roll(12)-1, d.roll(12)-1
			b := api.Box{X1: x, X2: x + d.roll(12) - 1, Y1: y, Y2: y + d.roll(12) - 1}
			var each [][]int
			var ids []int
			many := 0
			for _, r := range l {
				each = found(r.Begin(b), b, each)
				ids = append(ids, r.Report(b)...)
				many += r.Count(b)
			}
			slices.Sort(ids)
			for _, part := range []int{1, 2, 5, math.MaxInt} {
				run(t, rtcur.Report(b, l...), part, each, false)
				run(t, rtcur.Count(b, l...), part, each, true)
			}
			c := rtcur.Report(b, l...)
			c.Step(math.MaxInt)
			if !slices.Equal(c.IDs(), ids) || c.N() != many || c.Steps() > rtcur.Bound(l...) {
				t.Fatal("the trees tell otherwise")
			}
		}
		c := rtcur.Report(box.All(), l...)
		for i := range l {
			l[i] = nil
		}
		c.Step(math.MaxInt)
		n := 0
		for _, r := range was {
			n += r.Len()
		}
		if c.N() != n {
			t.Fatal("the list is kept", c.N(), n)
		}
	}
}

func TestNoTrees(t *testing.T) {
	if c := rtcur.Report(box.All()); !c.Done() || c.N() != 0 {
		t.Error("no trees")
	}
	e, _ := rtree.New()
	c := rtcur.Report(box.All(), nil, e)
	if c.Done() {
		t.Error("two parts of none")
	}
	if n, done := c.Step(9); n != 2 || !done || c.Steps() != 2 {
		t.Error(n, done)
	}
}

func TestManyTrees(t *testing.T) {
	const many = api.MaxStack + 10
	c := rtcur.Count(box.All(), make([]*rtree.Tree, many)...)
	if n, done := c.Step(math.MaxInt); n != many || !done {
		t.Error(n, done)
	}
}

func TestLess(t *testing.T) {
	r, _ := rtree.New(pt(3, 0, 0), pt(3, 1, 0), pt(5, 0, 0), pt(7, 2, 2), pt(7, 3, 2), pt(7, 4, 2))
	c := rtcur.Report(box.All(), r)
	c.Step(99)
	for _, x := range []struct{ l, w []int }{
		{nil, []int{3, 3, 5, 7, 7, 7}}, {[]int{7, 3}, []int{3, 5, 7, 7}}, {[]int{4, 8, 1}, []int{3, 3, 5, 7, 7, 7}}, {[]int{7, 7, 7, 7, 7, 5, 3, 3}, nil}, {[]int{9, 7, 3, 7}, []int{3, 5, 7}},
	} {
		was := slices.Clone(x.l)
		if got := c.Less(x.l...); !slices.Equal(got, x.w) || !slices.Equal(x.l, was) {
			t.Error(x.l, got)
		}
	}
	n := rtcur.Count(box.All(), r)
	if n.Step(99); len(n.Less()) != 0 || len(n.Less(3)) != 0 || n.N() != 6 {
		t.Error("Count has no ids")
	}
	ids, less := c.IDs(), c.Less()
	ids[0], less[1] = -1, -1
	if !slices.Equal(c.IDs(), []int{3, 3, 5, 7, 7, 7}) || !slices.Equal(c.Less(), []int{3, 3, 5, 7, 7, 7}) {
		t.Error("not new")
	}
}

func TestBound(t *testing.T) {
	a, _ := rtree.New(pt(1, 0, 0))
	b, _ := rtree.New(pt(1, 0, 0), pt(2, 0, 0), pt(3, 0, 0))
	e, _ := rtree.New()
	if rtcur.Bound() != 0 || rtcur.Bound(nil) != 1 || rtcur.Bound(e) != 1 || rtcur.Bound(a) != 5 || rtcur.Bound(a, b, nil) != 5+4*b.Levels()+1+1 {
		t.Error("Bound")
	}
}

func TestNil(t *testing.T) {
	var c *rtcur.Cursor
	if n, done := c.Step(4); n != 0 || !done || !c.Done() || len(c.IDs()) != 0 || c.N() != 0 || c.Steps() != 0 || len(c.Less(1)) != 0 {
		t.Error("nil")
	}
}
