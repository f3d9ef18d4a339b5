package segcur_test

import (
	"math"
	"slices"
	"testing"

	"alidade/api"
	"alidade/segcur"
	"alidade/segs"
)

func sp(id, lo, hi int) api.Span { return api.Span{ID: id, Lo: lo, Hi: hi} }

type dice struct{ n uint32 }

func (d *dice) roll(most int) int {
	d.n = d.n*1664525 + 1013904223
	return int(d.n>>12) % most
}

func tree(t *testing.T, d *dice, n, wide int) *segs.Tree {
	t.Helper()
	k, e := segs.New(10000)
	if e != api.OK {
		t.Fatal(e)
	}
	var l []api.Span
	for range n {
		lo := d.roll(wide)
		s := sp(1+d.roll(50), lo, lo+d.roll(4))
		if k.Insert(s) == api.OK {
			l = append(l, s)
		}
		if d.roll(4) == 0 {
			i := d.roll(len(l))
			k.Delete(l[i])
			l = slices.Delete(l, i, i+1)
		}
	}
	return k
}

// way is the ids each step finds on the way to the cell of x.
func way(k *segs.Tree, x int) (l [][]int) {
	for n := k.Root(); n != nil; {
		ids, next := n.Look(k.Cell(x))
		l, n = append(l, ids), next
	}
	return l
}

func run(t *testing.T, c *segcur.Cursor, part int, each [][]int) {
	t.Helper()
	steps := 0
	var ids []int
	for !c.Done() {
		if n, done := c.Step(0); n != 0 || done {
			t.Fatal("no step")
		}
		if n, done := c.Step(-3); n != 0 || done {
			t.Fatal("no step")
		}
		n, done := c.Step(part)
		if n != min(part, len(each)-steps) || done != (steps+n == len(each)) || done != c.Done() {
			t.Fatal("Step", n, done, steps, len(each))
		}
		for _, l := range each[steps : steps+n] {
			ids = append(ids, l...)
		}
		slices.Sort(ids)
		if steps += n; c.Steps() != steps || !slices.Equal(c.IDs(), ids) || c.N() != len(ids) {
			t.Fatal("by then", c.Steps(), c.IDs(), ids, c.N())
		}
	}
	if n, done := c.Step(7); n != 0 || !done || steps != len(each) {
		t.Fatal("done", n, done, steps)
	}
}

func TestInWhateverSteps(t *testing.T) {
	d := &dice{5}
	for _, n := range []int{0, 1, 2, 3, 7, 30, 120, 300} {
		wide := 6 + n
		k := tree(t, d, n, wide)
		for range 12 {
			lo := d.roll(wide) - 1
			hi := lo + d.roll(wide/2) - 1
			for _, part := range []int{1, 2, 5, math.MaxInt} {
				run(t, segcur.Stab(k, lo), part, way(k, lo))
				if lo <= hi {
					run(t, segcur.Overlap(k, lo, hi), part, append(way(k, lo), k.Begins(lo, hi)))
				}
			}
			c, s := segcur.Overlap(k, lo, hi), segcur.Stab(k, lo)
			if lo > hi && (!c.Done() || c.Steps() != 0) {
				t.Fatal("done at once")
			}
			c.Step(math.MaxInt)
			s.Step(math.MaxInt)
			if !slices.Equal(c.IDs(), k.Overlap(lo, hi)) || !slices.Equal(s.IDs(), k.Stab(lo)) {
				t.Fatal("the tree tells otherwise")
			}
			if cells := 2*k.Ends() + 1; s.Steps() > segcur.Levels(cells) || c.Steps() > segcur.Levels(cells)+1 {
				t.Fatal("too many steps")
			}
			if got := c.IDs(); len(got) > 0 {
				if got[0] = -1; slices.Contains(c.IDs(), -1) {
					t.Fatal("IDs is not new")
				}
			}
		}
	}
}

func TestEmpty(t *testing.T) {
	k, _ := segs.New(5)
	c, s := segcur.Overlap(k, 3, 4), segcur.Stab(k, 3)
	if n, done := c.Step(9); n != 2 || !done {
		t.Error(n, done)
	}
	if n, done := s.Step(9); n != 1 || !done {
		t.Error(n, done)
	}
	c = segcur.Overlap(k, 4, 3)
	if n, done := c.Step(9); n != 0 || !done || !c.Done() || c.N() != 0 {
		t.Error("turned", n, done)
	}
}

func TestLevels(t *testing.T) {
	for cells, w := range map[int]int{math.MinInt: 0, -1: 0, 0: 0, 1: 1, 2: 2, 3: 3, 4: 3, 5: 4, 8: 4, 9: 5, 1 << 40: 41, 1<<40 + 1: 42, math.MaxInt: 64} {
		if segcur.Levels(cells) != w {
			t.Error(cells, segcur.Levels(cells))
		}
	}
}

func TestATreeThatChanges(t *testing.T) {
	d := &dice{9}
	k := tree(t, d, 60, 20)
	c := segcur.Overlap(k, 0, 30)
	for i := 0; !c.Done() && i < 1000; i++ {
		c.Step(1)
		lo := d.roll(20)
		if s := sp(1+d.roll(5), lo, lo+d.roll(4)); k.Insert(s) != api.OK {
			k.Delete(s)
		}
	}
	if c.Step(math.MaxInt); !c.Done() {
		t.Error("does not end")
	}
}

func TestNil(t *testing.T) {
	var c *segcur.Cursor
	if n, done := c.Step(4); n != 0 || !done || !c.Done() || len(c.IDs()) != 0 || c.N() != 0 || c.Steps() != 0 {
		t.Error("cursor")
	}
	if segcur.Stab(nil, 0) != nil || segcur.Overlap(nil, 0, 1) != nil {
		t.Error("tree")
	}
}
