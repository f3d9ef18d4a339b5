package catalog_test

import (
	"math"
	"slices"
	"testing"

	"alidade/api"
	"alidade/catalog"
	"alidade/plan"
	"alidade/table"
)

const far = api.MaxCoord

func pt(id, x, y int) api.Point { return api.Point{ID: id, X: x, Y: y} }

func sp(id, lo, hi int) api.Span { return api.Span{ID: id, Lo: lo, Hi: hi} }

func addP(id, x, y int) api.Change { return api.Change{Kind: api.AddPoint, Point: pt(id, x, y)} }

func addS(id, lo, hi int) api.Change { return api.Change{Kind: api.AddSpan, Span: sp(id, lo, hi)} }

func dropP(id int) api.Change { return api.Change{Kind: api.DropPoint, Point: pt(id, 0, 0)} }

func dropS(id int) api.Change { return api.Change{Kind: api.DropSpan, Span: sp(id, 0, 0)} }

type dice struct{ n uint32 }

func (d *dice) roll(most int) int {
	d.n = d.n*1664525 + 1013904223
	return int(d.n>>12) % most
}

func made(t *testing.T, most int, l ...api.Change) *catalog.Catalog {
	t.Helper()
	c, e := catalog.New(most)
	if c == nil || e != api.OK {
		t.Fatal(most, e)
	}
	for _, x := range l {
		if e := c.Begin(x); e != api.OK {
			t.Fatal(x, e)
		}
		c.Step(9)
	}
	return c
}

func steps(x api.Change) int {
	if x.Kind <= api.DropPoint {
		return 4
	}
	return 3
}

func TestNew(t *testing.T) {
	for _, most := range []int{0, -1, api.MaxPool + 1, 1 << 62} {
		if c, e := catalog.New(most); c != nil || e != api.ErrArg {
			t.Error(most, e)
		}
	}
	c := made(t, api.MaxPool)
	if x, ok := c.Writing(); x != (api.Change{}) || ok || c.Version() != 0 || !c.Valid(0) || c.Valid(1) || c.Len() != 0 || len(c.Points()) != 0 || len(c.Spans()) != 0 || !c.Agree() {
		t.Error("empty")
	}
	if n, none := c.Step(5); n != 0 || !none || c.Version() != 0 {
		t.Error("Step of nothing")
	}
	if n, none := c.Back(5); n != 0 || !none {
		t.Error("Back of nothing")
	}
}

func TestExample(t *testing.T) {
	c := made(t, 5)
	if c.Begin(addP(1, 0, 0)) != api.OK {
		t.Error("Begin")
	}
	if n, none := c.Step(9); n != 4 || !none || c.Version() != 1 {
		t.Error(n, none, c.Version())
	}
}

func TestStepAndBack(t *testing.T) {
	for _, x := range []struct{ x, w api.Change }{
		{addP(7, 1, 1), addP(7, 1, 1)}, {dropP(2), api.Change{Kind: api.DropPoint, Point: pt(2, 2, 3)}}, {addS(7, 1, 5), addS(7, 1, 5)}, {dropS(1), api.Change{Kind: api.DropSpan, Span: sp(1, 4, 9)}},
	} {
		for upTo := 0; upTo <= steps(x.x); upTo++ {
			c := made(t, 9, addP(1, 2, 3), addP(2, 2, 3), addS(1, 4, 9))
			was := c.Points()
			if c.Version() != 3 || c.Begin(x.x) != api.OK || c.Agree() || c.Valid(3) || c.Begin(x.x) != api.ErrBusy || c.Begin(api.Change{}) != api.ErrBusy {
				t.Fatal("Begin", x.x)
			}
			if n, none := c.Step(0); n != 0 || none {
				t.Fatal("Step(0)")
			}
			if n, none := c.Step(-4); n != 0 || none {
				t.Fatal("Step(-4)")
			}
			if n, none := c.Back(0); n != 0 || none {
				t.Fatal("Back(0)")
			}
			n, none := c.Step(upTo)
			if n != upTo || none != (upTo == steps(x.x)) {
				t.Fatal("Step", n, none)
			}
			if none {
				if _, ok := c.Writing(); ok || c.Version() != 4 || !c.Valid(4) || c.Valid(3) || !c.Agree() {
					t.Fatal("done", x.x)
				}
				continue
			}
			if w, ok := c.Writing(); w != x.w || !ok || c.Version() != 3 || c.Valid(3) || c.Valid(4) || c.Agree() {
				t.Fatal("under way", w, ok)
			}
			if _, e := c.Ask(api.Query{Kind: api.AskStab}, api.OfSegs); e != api.ErrBusy {
				t.Fatal("Ask", e)
			}
			if _, e := c.Ask(api.Query{}, 0); e != api.ErrBusy {
				t.Fatal("Ask", e)
			}
			if k, e := c.Look(api.Query{Kind: api.AskStab}, api.OfSegs); k == nil || e != api.OK {
				t.Fatal("Look", e)
			}
			if upTo > 1 {
				if n, none := c.Back(1); n != 1 || none {
					t.Fatal("Back(1)", n, none)
				}
			}
			left := max(upTo-1, 0)
			if upTo == 1 {
				left = 1
			}
			if n, none := c.Back(math.MaxInt); n != left || !none {
				t.Fatal("Back", n, none, left)
			}
			if _, ok := c.Writing(); ok || c.Version() != 3 || !c.Valid(3) || !c.Agree() || !slices.Equal(c.Points(), was) || c.Len() != 3 {
				t.Fatal("turned back")
			}
		}
	}
}

func TestBackOfOneThatHasJustBegun(t *testing.T) {
	c := made(t, 5)
	c.Begin(addP(1, 0, 0))
	if n, none := c.Back(1); n != 0 || !none || !c.Valid(0) || !c.Agree() || c.Begin(addP(1, 0, 0)) != api.OK {
		t.Error(n, none)
	}
}

func TestCodes(t *testing.T) {
	c := made(t, 3, addP(1, 0, 0), addS(1, 0, 5))
	for _, x := range []struct {
		x api.Change
		e api.Errno
	}{
		{api.Change{}, api.ErrArg}, {addP(2, far+1, 0), api.ErrRange}, {addS(2, 1, 0), api.ErrOrder}, {addP(1, 5, 5), api.ErrDup}, {dropP(2), api.ErrNone}, {dropS(2), api.ErrNone},
	} {
		if c.May(x.x) != x.e || c.Begin(x.x) != x.e || !c.Agree() || c.Version() != 2 {
			t.Error(x.x)
		}
	}
	if c.May(addP(2, 0, 0)) != api.OK || c.Version() != 2 || c.Len() != 2 {
		t.Error("May")
	}
	c.Begin(addP(2, 0, 0))
	c.Step(9)
	if c.May(addP(3, 0, 0)) != api.ErrFull || c.Begin(addS(3, 0, 0)) != api.ErrFull {
		t.Error("full")
	}
	for _, x := range []struct {
		q  api.Query
		of int
		e  api.Errno
	}{
		{api.Query{}, 1, api.ErrArg}, {api.Query{Kind: api.AskStab}, api.OfKd, api.ErrNone}, {api.Query{Kind: api.AskStab, X: far + 1}, api.OfKd, api.ErrRange}, {api.Query{Kind: api.AskOverlap, X: 1}, api.OfItree, api.ErrOrder},
	} {
		k, e := c.Look(x.q, x.of)
		a, g := c.Ask(x.q, x.of)
		if k != nil || e != x.e || g != x.e || a.N != 0 {
			t.Error(x.q, e, g)
		}
	}
}

func TestAgainstATable(t *testing.T) {
	for seed := range uint32(5) {
		d := &dice{seed}
		c := made(t, 30)
		k, _ := table.New(30)
		for range 400 {
			lo := d.roll(9)
			id := 1 + d.roll(25)
			x := []api.Change{addP(id, d.roll(9), d.roll(9)), dropP(id), addS(id, lo, lo+d.roll(4)), dropS(id)}[d.roll(4)]
			e := k.May(x)
			if c.May(x) != e || c.Begin(x) != e {
				t.Fatal(x, e)
			}
			if e == api.OK {
				if n := d.roll(steps(x) + 3); n >= steps(x) {
					for none := false; !none; {
						_, none = c.Step(1 + d.roll(2))
					}
					k.Do(x)
				} else {
					c.Step(n)
					for none := false; !none; {
						_, none = c.Back(1 + d.roll(2))
					}
				}
			}
			if !c.Agree() || !slices.Equal(c.Points(), k.Points()) || !slices.Equal(c.Spans(), k.Spans()) || c.Len() != k.Len() {
				t.Fatal("not what the table has", x)
			}
			q := api.Query{Kind: 1 + d.roll(7), Box: api.Box{X1: lo, X2: lo + 4, Y1: lo, Y2: lo + 3}, Win: api.Win{X1: lo, X2: lo + 3, Y: lo}, X: lo, Hi: lo + 2}
			w := plan.Plain(q, k.Points(), k.Spans())
			for _, of := range plan.Choice(q) {
				if a, e := c.Ask(q, of); e != api.OK || a.N != w.N || !slices.Equal(a.IDs, w.IDs) {
					t.Fatal("Ask", q, of, a, w)
				}
			}
		}
	}
}

func TestACursorOfAVersion(t *testing.T) {
	c := made(t, 50)
	for i := range 20 {
		c.Begin(addP(i+1, i, i))
		c.Step(9)
	}
	v := c.Version()
	q := api.Query{Kind: api.AskBox, Box: api.Box{X1: 3, X2: 12, Y1: 0, Y2: 50}}
	k, e := c.Look(q, api.OfKd)
	for e == api.OK && !k.Done() {
		k.Step(1)
	}
	if a, ok := k.Answer(); !ok || a.N != 10 || !c.Valid(v) {
		t.Error(a, ok)
	}
}

func TestNil(t *testing.T) {
	var c *catalog.Catalog
	n, none := c.Step(1)
	m, nothing := c.Back(1)
	x, ok := c.Writing()
	k, e := c.Look(api.Query{Kind: api.AskStab}, api.OfSegs)
	a, g := c.Ask(api.Query{Kind: api.AskStab}, api.OfSegs)
	if n != 0 || !none || m != 0 || !nothing || x != (api.Change{}) || ok || k != nil || e != api.ErrArg || a.N != 0 || g != api.ErrArg || c.Begin(addP(1, 0, 0)) != api.ErrArg || c.May(addP(1, 0, 0)) != api.ErrArg ||
		c.Version() != 0 || c.Valid(0) || len(c.Points()) != 0 || len(c.Spans()) != 0 || c.Len() != 0 || c.Agree() {
		t.Error("nil")
	}
}
