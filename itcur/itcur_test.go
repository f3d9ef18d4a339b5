package itcur_test

import (
	"math"
	"slices"
	"testing"

	"alidade/api"
	"alidade/itcur"
	"alidade/itree"
)

func sp(id, lo, hi int) api.Span { return api.Span{ID: id, Lo: lo, Hi: hi} }

type dice struct{ n uint32 }

func (d *dice) roll(most int) int {
	d.n = d.n*1664525 + 1013904223
	return int(d.n>>12) % most
}

func tree(t *testing.T, d *dice, n, wide int) *itree.Tree {
	t.Helper()
	k, e := itree.New(10000)
	if e != api.OK {
		t.Fatal(e)
	}
	var l []api.Span
	for range n {
		lo := d.roll(wide)
		s := sp(1+d.roll(50), lo, lo+d.roll(4))
		if k.Insert(s) == api.OK {
			l = append(l, s)
		}
		if d.roll(4) == 0 {
			i := d.roll(len(l))
			k.Delete(l[i])
			l = slices.Delete(l, i, i+1)
		}
	}
	return k
}

// found is the ids each step finds, in the order in which nodes are to be looked at.
func found(n *itree.Node, lo, hi int, l [][]int) [][]int {
	if n == nil {
		return l
	}
	ids, next := n.Look(lo, hi)
	l = append(l, ids)
	for _, kid := range next {
		l = found(kid, lo, hi, l)
	}
	return l
}

func run(t *testing.T, c *itcur.Cursor, part int, each [][]int) {
	t.Helper()
	steps := 0
	var ids []int
	for !c.Done() {
		if n, done := c.Step(0); n != 0 || done {
			t.Fatal("no step")
		}
		if n, done := c.Step(-3); n != 0 || done {
			t.Fatal("no step")
		}
		n, done := c.Step(part)
		if n != min(part, len(each)-steps) || done != (steps+n == len(each)) || done != c.Done() {
			t.Fatal("Step", n, done, steps, len(each))
		}
		for _, l := range each[steps : steps+n] {
			ids = append(ids, l...)
		}
		slices.Sort(ids)
		if steps += n; c.Steps() != steps || !slices.Equal(c.IDs(), ids) || c.N() != len(ids) {
			t.Fatal("by then", c.Steps(), c.IDs(), ids, c.N())
		}
	}
	if n, done := c.Step(7); n != 0 || !done || steps != len(each) {
		t.Fatal("done", n, done, steps)
	}
}

func TestInWhateverSteps(t *testing.T) {
	d := &dice{5}
	for _, n := range []int{0, 1, 2, 3, 7, 30, 120, 400} {
		wide := 6 + n
		k := tree(t, d, n, wide)
		for range 12 {
			lo := d.roll(wide) - 1
			hi := lo + d.roll(wide/2) - 1
			for _, part := range []int{1, 2, 5, math.MaxInt} {
				run(t, itcur.Overlap(k, lo, hi), part, found(k.Root(), lo, hi, nil))
				run(t, itcur.Stab(k, lo), part, found(k.Root(), lo, lo, nil))
			}
			c, s := itcur.Overlap(k, lo, hi), itcur.Stab(k, lo)
			c.Step(math.MaxInt)
			s.Step(math.MaxInt)
			if !slices.Equal(c.IDs(), k.Overlap(lo, hi)) || c.N() != k.Count(lo, hi) || !slices.Equal(s.IDs(), k.Stab(lo)) {
				t.Fatal("the tree tells otherwise")
			}
			if got := c.IDs(); len(got) > 0 {
				if got[0] = -1; slices.Contains(c.IDs(), -1) {
					t.Fatal("IDs is not new")
				}
			}
		}
	}
}

func TestExample(t *testing.T) {
	k, _ := itree.New(5)
	if c := itcur.Stab(k, 0); !c.Done() {
		t.Error("empty")
	}
	k.Insert(sp(1, 0, 5))
	k.Insert(sp(2, 4, 9))
	c := itcur.Overlap(k, 4, 4)
	if c.Step(99); !slices.Equal(c.IDs(), []int{1, 2}) {
		t.Error(c.IDs())
	}
	c = itcur.Overlap(k, 5, 4)
	if n, done := c.Step(99); n != 1 || !done || c.N() != 0 {
		t.Error("the root is looked at", n, done)
	}
}

func TestAbort(t *testing.T) {
	k := tree(t, &dice{3}, 100, 50)
	c := itcur.Overlap(k, 0, 100)
	c.Step(9)
	if c.N() == 0 || c.Done() {
		t.Fatal("too few")
	}
	c.Abort()
	if n, done := c.Step(5); n != 0 || !done || !c.Done() || c.N() != 0 || len(c.IDs()) != 0 || c.Steps() != 9 {
		t.Error("Abort", n, done, c.N(), c.Steps())
	}
}

func TestATreeThatChanges(t *testing.T) {
	d := &dice{9}
	k := tree(t, d, 60, 20)
	c := itcur.Overlap(k, 0, 30)
	for i := 0; !c.Done() && i < 100000; i++ {
		c.Step(1)
		lo := d.roll(20)
		if s := sp(1+d.roll(5), lo, lo+d.roll(4)); k.Insert(s) != api.OK {
			k.Delete(s)
		}
	}
	if c.Step(math.MaxInt); !c.Done() {
		t.Error("does not end")
	}
}

func TestNil(t *testing.T) {
	var c *itcur.Cursor
	c.Abort()
	if n, done := c.Step(4); n != 0 || !done || !c.Done() || len(c.IDs()) != 0 || c.N() != 0 || c.Steps() != 0 {
		t.Error("cursor")
	}
	if itcur.Stab(nil, 0) != nil || itcur.Overlap(nil, 0, 1) != nil {
		t.Error("tree")
	}
}
