package pstcur_test

import (
	"math"
	"slices"
	"testing"

	"alidade/api"
	"alidade/kern"
	"alidade/pst"
	"alidade/pstcur"
)

const far = api.MaxCoord

var all = api.Win{X1: -far, X2: far, Y: -far}

func pt(id, x, y int) api.Point { return api.Point{ID: id, X: x, Y: y} }

type dice struct{ n uint32 }

func (d *dice) roll(most int) int {
	d.n = d.n*1664525 + 1013904223
	return int(d.n>>12) % most
}

func tree(t *testing.T, d *dice, n, wide int) (*pst.Tree, []api.Point) {
	t.Helper()
	k, e := pst.New(10000)
	if e != api.OK {
		t.Fatal(e)
	}
	var l []api.Point
	for range n {
		p := pt(1+d.roll(5), d.roll(wide), d.roll(wide))
		if k.Insert(p) == api.OK {
			l = append(l, p)
		}
		if d.roll(4) == 0 {
			i := d.roll(len(l))
			k.Delete(l[i])
			l = slices.Delete(l, i, i+1)
		}
	}
	return k, l
}

func nodes(n *pst.Node, w api.Win) int {
	if n == nil {
		return 0
	}
	many := 1
	_, next := n.Look(w)
	for _, kid := range next {
		many += nodes(kid, w)
	}
	return many
}

func run(t *testing.T, c *pstcur.Cursor, part, many int, ids []int, counts bool) {
	t.Helper()
	for steps := 0; !c.Done(); {
		if n, done := c.Step(0); n != 0 || done {
			t.Fatal("no step", n, done)
		}
		if n, done := c.Step(-3); n != 0 || done {
			t.Fatal("no step", n, done)
		}
		n, done := c.Step(part)
		if n != min(part, many-steps) || done != (steps+n == many) || done != c.Done() {
			t.Fatal("Step", n, done, steps, many)
		}
		if steps += n; c.Steps() != steps || !slices.IsSorted(c.IDs()) {
			t.Fatal("Steps", c.Steps(), steps)
		}
	}
	if n, done := c.Step(5); n != 0 || !done || c.Steps() != many || c.N() != len(ids) {
		t.Fatal("done", n, done, c.Steps(), many, c.N(), len(ids))
	}
	if counts {
		ids = nil
	}
	if !slices.Equal(c.IDs(), ids) {
		t.Fatal("IDs", c.IDs(), ids)
	}
}

func TestInWhateverSteps(t *testing.T) {
	d := &dice{5}
	for _, n := range []int{0, 1, 2, 3, 7, 30, 120, 400} {
		k, l := tree(t, d, n, 3+n/4)
		for range 12 {
			x := d.roll(4+n/4) - 1
			w := api.Win{X1: x, X2: x + d.roll(n/3+3) - 1, Y: d.roll(4+n/4) - 1}
			var ids []int
			for _, p := range l {
				if w.X1 <= p.X && p.X <= w.X2 && w.Y <= p.Y {
					ids = append(ids, p.ID)
				}
			}
			slices.Sort(ids)
			for _, part := range []int{1, 2, 5, 1000, math.MaxInt} {
				run(t, pstcur.Report(k, w), part, nodes(k.Root(), w), ids, false)
				run(t, pstcur.Count(k, w), part, nodes(k.Root(), w), ids, true)
			}
			c := pstcur.Report(k, w)
			c.Step(math.MaxInt)
			if !slices.Equal(c.IDs(), k.Report(w)) || c.N() != k.Count(w) {
				t.Fatal("the tree tells otherwise")
			}
			if got := c.IDs(); len(got) > 0 {
				if got[0] = -1; slices.Contains(c.IDs(), -1) {
					t.Fatal("IDs is not new")
				}
			}
		}
	}
}

// fall is what a Fall should do, by a plain list of who waits.
type fall struct {
	waits  []*pst.Node
	w      api.Win
	looked int
}

func (f *fall) next() (api.Point, bool) {
	for len(f.waits) > 0 {
		i := 0
		for j, n := range f.waits {
			if kern.Up(n.Point(), f.waits[i].Point()) > 0 {
				i = j
			}
		}
		n := f.waits[i]
		f.waits = slices.Delete(f.waits, i, i+1)
		f.looked++
		hit, next := n.Look(f.w)
		f.waits = append(f.waits, next...)
		if hit {
			return n.Point(), true
		}
	}
	return api.Point{}, false
}

func TestFall(t *testing.T) {
	d := &dice{8}
	for _, n := range []int{0, 1, 2, 3, 7, 30, 120, 400} {
		k, l := tree(t, d, n, 3+n/4)
		for range 12 {
			x1 := d.roll(4+n/4) - 1
			x2 := x1 + d.roll(n/3+3) - 1
			var w []api.Point
			for _, p := range l {
				if x1 <= p.X && p.X <= x2 {
					w = append(w, p)
				}
			}
			slices.SortFunc(w, func(p, q api.Point) int { return kern.Up(q, p) })
			f := pstcur.Down(k, x1, x2)
			model := &fall{w: api.Win{X1: x1, X2: x2, Y: -far}}
			if k.Root() != nil {
				model.waits = append(model.waits, k.Root())
			}
			if f.Looked() != 0 {
				t.Fatal("looked ahead")
			}
			for i := 0; i < len(w)+2; i++ {
				p, ok := f.Next()
				q, fine := model.next()
				if ok != (i < len(w)) || ok && p != w[i] || !ok && p != (api.Point{}) || p != q || ok != fine || f.Looked() != model.looked {
					t.Fatal("Next", i, p, ok, q, fine, f.Looked(), model.looked)
				}
			}
			f = pstcur.Down(k, x1, x2)
			if len(f.Take(0)) != 0 || len(f.Take(-4)) != 0 || f.Looked() != 0 {
				t.Fatal("Take none")
			}
			some := f.Take(3)
			rest := f.Take(math.MaxInt)
			if !slices.Equal(some, w[:min(3, len(w))]) || !slices.Equal(rest, w[min(3, len(w)):]) || len(f.Take(5)) != 0 {
				t.Fatal("Take", some, rest, w)
			}
		}
	}
}

func TestExample(t *testing.T) {
	k, _ := pst.New(5)
	k.Insert(pt(1, 0, 5))
	k.Insert(pt(2, 3, 9))
	f := pstcur.Down(k, 0, 9)
	if p, ok := f.Next(); p != pt(2, 3, 9) || !ok {
		t.Error(p)
	}
	if p, ok := f.Next(); p != pt(1, 0, 5) || !ok {
		t.Error(p)
	}
	if p, ok := f.Next(); p != (api.Point{}) || ok || f.Looked() != 2 {
		t.Error(p)
	}
}

func TestATreeThatChanges(t *testing.T) {
	d := &dice{9}
	k, _ := tree(t, d, 60, 20)
	c, f := pstcur.Report(k, all), pstcur.Down(k, 0, 20)
	for i := 0; !c.Done() && i < 100000; i++ {
		c.Step(1)
		f.Next()
		p := pt(1+d.roll(5), d.roll(20), d.roll(20))
		if k.Insert(p) != api.OK {
			k.Delete(p)
		}
	}
	f.Take(math.MaxInt)
	if c.Step(math.MaxInt); !c.Done() {
		t.Error("does not end")
	}
}

func TestNil(t *testing.T) {
	var c *pstcur.Cursor
	if n, done := c.Step(4); n != 0 || !done || !c.Done() || len(c.IDs()) != 0 || c.N() != 0 || c.Steps() != 0 {
		t.Error("cursor")
	}
	var f *pstcur.Fall
	if p, ok := f.Next(); p != (api.Point{}) || ok || len(f.Take(3)) != 0 || f.Looked() != 0 {
		t.Error("fall")
	}
	if pstcur.Report(nil, all) != nil || pstcur.Count(nil, all) != nil || pstcur.Down(nil, 0, 1) != nil {
		t.Error("tree")
	}
}
