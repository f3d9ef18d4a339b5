package kdcur_test

import (
	"math"
	"slices"
	"testing"

	"alidade/api"
	"alidade/box"
	"alidade/kd"
	"alidade/kdcur"
)

func pt(id, x, y int) api.Point { return api.Point{ID: id, X: x, Y: y} }

type dice struct{ n uint32 }

func (d *dice) roll(most int) int {
	d.n = d.n*1664525 + 1013904223
	return int(d.n>>12) % most
}

// tree is a tree in which some points come and go, and what is there in the end.
func tree(t *testing.T, d *dice, n, wide int) (*kd.Tree, []api.Point) {
	t.Helper()
	k, e := kd.New(10000)
	if e != api.OK {
		t.Fatal(e)
	}
	var l []api.Point
	for range n {
		p := pt(1+d.roll(5), d.roll(wide), d.roll(wide))
		if k.Insert(p) == api.OK {
			l = append(l, p)
		}
		if d.roll(4) == 0 {
			i := d.roll(len(l))
			k.Delete(l[i])
			l = slices.Delete(l, i, i+1)
		}
	}
	return k, l
}

// nodes is at how many nodes a cursor looks that looks into b.
func nodes(n *kd.Node, b api.Box) int {
	if n == nil {
		return 0
	}
	many := 1
	for _, kid := range n.Kids() {
		k := kid.Box()
		if max(k.X1, b.X1) <= min(k.X2, b.X2) && max(k.Y1, b.Y1) <= min(k.Y2, b.Y2) {
			many += nodes(kid, b)
		}
	}
	return many
}

func idsIn(l []api.Point, b api.Box) []int {
	var ids []int
	for _, p := range l {
		if b.X1 <= p.X && p.X <= b.X2 && b.Y1 <= p.Y && p.Y <= b.Y2 {
			ids = append(ids, p.ID)
		}
	}
	slices.Sort(ids)
	return ids
}

// run steps a cursor till it is done, part by part, and looks whether it tells the truth.
func run(t *testing.T, c *kdcur.Cursor, part, many int, ids []int, counts bool) {
	t.Helper()
	for steps := 0; !c.Done(); {
		if n, done := c.Step(0); n != 0 || done {
			t.Fatal("no step", n, done)
		}
		if n, done := c.Step(-3); n != 0 || done {
			t.Fatal("no step", n, done)
		}
		n, done := c.Step(part)
		if n != min(part, many-steps) || done != (steps+n == many) || done != c.Done() {
			t.Fatal("Step", n, done, steps, many)
		}
		if steps += n; c.Steps() != steps || !slices.IsSorted(c.IDs()) {
			t.Fatal("Steps", c.Steps(), steps)
		}
	}
	if n, done := c.Step(5); n != 0 || !done || c.Steps() != many || c.N() != len(ids) {
		t.Fatal("done", n, done, c.Steps(), many, c.N(), len(ids))
	}
	if counts {
		ids = nil
	}
	if !slices.Equal(c.IDs(), ids) {
		t.Fatal("IDs", c.IDs(), ids)
	}
}

func TestInWhateverSteps(t *testing.T) {
	d := &dice{5}
	for _, n := range []int{0, 1, 2, 3, 7, 30, 120, 400} {
		k, l := tree(t, d, n, 3+n/4)
		for range 12 {
			x, y := d.roll(4+n/4)-1, d.roll(4+n/4)-1
			b := api.Box{X1: x, X2: x + d.roll(n/3+3) - 1, Y1: y, Y2: y + d.roll(n/3+3) - 1}
			w := api.Win{X1: b.X1, X2: b.X2, Y: b.Y1}
			open := api.Box{X1: b.X1, X2: b.X2, Y1: b.Y1, Y2: math.MaxInt}
			for _, part := range []int{1, 2, 5, 1000, math.MaxInt} {
				run(t, kdcur.Report(k, b), part, nodes(k.Root(), b), idsIn(l, b), false)
				run(t, kdcur.Count(k, b), part, nodes(k.Root(), b), idsIn(l, b), true)
				run(t, kdcur.Window(k, w), part, nodes(k.Root(), open), idsIn(l, open), false)
			}
			c := kdcur.Report(k, b)
			c.Step(math.MaxInt)
			if !slices.Equal(c.IDs(), k.Report(b)) || c.N() != k.Count(b) || c.Steps() > k.Root().Size() {
				t.Fatal("the tree tells otherwise")
			}
		}
	}
}

func TestTheRootIsLookedAt(t *testing.T) {
	k, _ := kd.New(5)
	if c := kdcur.Report(k, box.All()); !c.Done() || c.Steps() != 0 {
		t.Error("empty")
	}
	k.Insert(pt(1, 0, 0))
	if n, done := kdcur.Report(k, box.All()).Step(5); n != 1 || !done {
		t.Error(n, done)
	}
	k.Insert(pt(2, 1, 1))
	k.Insert(pt(3, 2, 2))
	for _, c := range []*kdcur.Cursor{kdcur.Report(k, api.Box{X1: 7, X2: 9, Y1: 7, Y2: 9}), kdcur.Count(k, api.Box{X1: 2, X2: 0, Y1: 0, Y2: 2}), kdcur.Window(k, api.Win{X1: 0, X2: 2, Y: 3}), kdcur.Window(k, api.Win{X1: 2, X2: 0, Y: 0})} {
		if n, done := c.Step(9); n != 1 || !done || c.N() != 0 {
			t.Error(n, done)
		}
	}
}

func TestClone(t *testing.T) {
	k, l := tree(t, &dice{3}, 100, 50)
	c := kdcur.Report(k, box.All())
	c.Step(20)
	e := c.Clone()
	was := c.IDs()
	e.Step(math.MaxInt)
	if c.Done() || c.Steps() != 20 || !slices.Equal(c.IDs(), was) || !e.Done() || e.N() != len(l) {
		t.Error("Clone")
	}
	c.Step(math.MaxInt)
	if !slices.Equal(c.IDs(), e.IDs()) || c.Steps() != e.Steps() || len(c.IDs()) != len(l) {
		t.Error("as far")
	}
	ids := c.IDs()
	ids[0] = -1
	if slices.Contains(c.IDs(), -1) {
		t.Error("IDs is not new")
	}
}

func TestATreeThatChanges(t *testing.T) {
	d := &dice{9}
	k, _ := tree(t, d, 60, 20)
	c := kdcur.Report(k, box.All())
	for i := 0; !c.Done() && i < 100000; i++ {
		c.Step(1)
		p := pt(1+d.roll(5), d.roll(20), d.roll(20))
		if k.Insert(p) != api.OK {
			k.Delete(p)
		}
	}
	c.Step(math.MaxInt)
	if !c.Done() {
		t.Error("does not end")
	}
}

func TestNil(t *testing.T) {
	var c *kdcur.Cursor
	if n, done := c.Step(4); n != 0 || !done || !c.Done() || len(c.IDs()) != 0 || c.N() != 0 || c.Steps() != 0 || c.Clone() != nil {
		t.Error("cursor")
	}
	if kdcur.Report(nil, box.All()) != nil || kdcur.Count(nil, box.All()) != nil || kdcur.Window(nil, api.Win{}) != nil {
		t.Error("tree")
	}
}
