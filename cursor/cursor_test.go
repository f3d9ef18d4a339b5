package cursor_test

import (
	"math"
	"slices"
	"testing"

	"alidade/api"
	"alidade/cursor"
	"alidade/plan"
)

const far = api.MaxCoord

type dice struct{ n uint32 }

func (d *dice) roll(most int) int {
	d.n = d.n*1664525 + 1013904223
	return int(d.n>>12) % most
}

func made(t *testing.T, most int) *cursor.Five {
	t.Helper()
	f, e := cursor.Make(most)
	if f == nil || e != api.OK {
		t.Fatal(most, e)
	}
	return f
}

// change lets a point, and an interval, come to all, or go from all.
func change(t *testing.T, f *cursor.Five, p api.Point, s api.Span, add bool) {
	t.Helper()
	codes := []api.Errno{f.Kd.Delete(p), f.Range.Delete(p), f.Pst.Delete(p), f.Itree.Delete(s), f.Segs.Delete(s)}
	if add {
		codes = []api.Errno{f.Kd.Insert(p), f.Range.Insert(p), f.Pst.Insert(p), f.Itree.Insert(s), f.Segs.Insert(s)}
	}
	for i, e := range codes {
		if add && e != api.OK {
			t.Fatal(i, p, s, e)
		}
	}
}

func filled(t *testing.T, n int) (*cursor.Five, []api.Point, []api.Span) {
	t.Helper()
	f, d := made(t, 1000), &dice{uint32(n)}
	var p []api.Point
	var s []api.Span
	for id := 1; id <= n; id++ {
		lo := d.roll(n + 3)
		p = append(p, api.Point{ID: id, X: d.roll(n + 3), Y: d.roll(n + 3)})
		s = append(s, api.Span{ID: id, Lo: lo, Hi: lo + d.roll(5)})
		change(t, f, p[len(p)-1], s[len(s)-1], true)
		if d.roll(3) == 0 {
			i := d.roll(len(p))
			change(t, f, p[i], s[i], false)
			p, s = slices.Delete(p, i, i+1), slices.Delete(s, i, i+1)
		}
	}
	return f, p, s
}

func asks(d *dice, n int) []api.Query {
	var l []api.Query
	for kind := 1; kind <= api.AskKinds; kind++ {
		for range 6 {
			x, y, w := d.roll(n+3), d.roll(n+3), d.roll(n/2+4)
			l = append(l, api.Query{Kind: kind, Box: api.Box{X1: x, X2: x + w, Y1: y, Y2: y + w}, Win: api.Win{X1: x, X2: x + w, Y: y}, X: x, Hi: x + w})
		}
		l = append(l, api.Query{Kind: kind, Box: api.Box{X1: -far, X2: far, Y1: -far, Y2: far}, Win: api.Win{X1: -far, X2: far, Y: -far}, X: -far, Hi: far})
	}
	return l
}

func same(a, b api.Answer) bool { return a.N == b.N && slices.Equal(a.IDs, b.IDs) }

func TestMake(t *testing.T) {
	for _, most := range []int{0, -1, api.MaxPool + 1, 1 << 62} {
		if f, e := cursor.Make(most); f != nil || e != api.ErrArg {
			t.Error(most, e)
		}
	}
	made(t, api.MaxPool)
	f := made(t, 1)
	if !f.Check() || f.Kd.Len()+f.Range.Len()+f.Pst.Len()+f.Itree.Len()+f.Segs.Len() != 0 {
		t.Error("empty")
	}
	change(t, f, api.Point{ID: 1}, api.Span{ID: 1}, true)
	p, s := api.Point{ID: 2}, api.Span{ID: 2}
	for i, e := range []api.Errno{f.Kd.Insert(p), f.Range.Insert(p), f.Pst.Insert(p), f.Itree.Insert(s), f.Segs.Insert(s)} {
		if e != api.ErrFull {
			t.Error("most", i, e)
		}
	}
}

func TestWhoeverIsAsked(t *testing.T) {
	for _, n := range []int{0, 1, 2, 5, 30, 150} {
		f, p, s := filled(t, n)
		if !f.Check() {
			t.Fatal("Check")
		}
		for _, q := range asks(&dice{7}, n) {
			w := plan.Plain(q, p, s)
			for _, of := range plan.Choice(q) {
				if a, e := cursor.Ask(f, q, of); !same(a, w) || e != api.OK {
					t.Fatal("Ask", q, of, a, w, e)
				}
				total := -1
				for _, part := range []int{math.MaxInt, 1, 3} {
					c, e := f.Begin(q, of)
					if c == nil || e != api.OK || c.Of() != of || c.Steps() != 0 {
						t.Fatal("Begin", q, of, e)
					}
					steps := 0
					for !c.Done() {
						if a, ok := c.Answer(); ok || a.N != 0 || len(a.IDs) != 0 {
							t.Fatal("not done yet")
						}
						if n, done := c.Step(0); n != 0 || done {
							t.Fatal("no step")
						}
						n, done := c.Step(part)
						if steps += n; n < 1 || n > part || c.Steps() != steps || done != c.Done() {
							t.Fatal("Step", n, done, c.Steps(), steps)
						}
					}
					if n, done := c.Step(1); n != 0 || !done {
						t.Fatal("done")
					}
					if total < 0 {
						total = steps
					}
					for range 2 {
						a, ok := c.Answer()
						if !ok || !same(a, w) || steps != total {
							t.Fatal("Answer", q, of, a, w)
						}
						if len(a.IDs) > 0 {
							a.IDs[0] = -1
						}
					}
				}
			}
		}
	}
}

func TestErrors(t *testing.T) {
	f, _, _ := filled(t, 20)
	for of := -1; of <= api.Indexes+1; of++ {
		for kind := -1; kind <= api.AskKinds+1; kind++ {
			good := api.Query{Kind: kind}
			e := plan.Check(good)
			if e == api.OK && !slices.Contains(plan.Choice(good), of) {
				e = api.ErrNone
			}
			c, b := f.Begin(good, of)
			a, g := cursor.Ask(f, good, of)
			if b != e || g != e || (c == nil) != (e != api.OK) || e != api.OK && (a.N != 0 || len(a.IDs) != 0) {
				t.Error(kind, of, b, g)
			}
			bad := api.Query{Kind: kind, Box: api.Box{X1: 2, X2: 1}, Win: api.Win{X1: 2, X2: 1}, X: far + 1}
			if c, e := f.Begin(bad, of); c != nil || e != plan.Check(bad) {
				t.Error("bad", kind, of, e)
			}
		}
	}
	var none *cursor.Five
	parts := []*cursor.Five{none, {}, {nil, f.Range, f.Pst, f.Itree, f.Segs}, {f.Kd, nil, f.Pst, f.Itree, f.Segs}, {f.Kd, f.Range, nil, f.Itree, f.Segs}, {f.Kd, f.Range, f.Pst, nil, f.Segs}, {f.Kd, f.Range, f.Pst, f.Itree, nil}}
	for i, g := range parts {
		for of := 0; of <= 6; of++ {
			for kind := 0; kind <= 8; kind++ {
				if c, e := g.Begin(api.Query{Kind: kind, X: far * kind}, of); c != nil || e != api.ErrArg {
					t.Error(i, of, kind, e)
				}
			}
		}
		if a, e := cursor.Ask(g, api.Query{Kind: 1}, 1); g.Check() || e != api.ErrArg || a.N != 0 {
			t.Error(i, e)
		}
	}
}

func TestExample(t *testing.T) {
	if a, e := cursor.Ask(made(t, 5), api.Query{Kind: api.AskStab, X: 3}, api.OfSegs); a.N != 0 || len(a.IDs) != 0 || e != api.OK {
		t.Error(a, e)
	}
}

func TestIndexesThatChange(t *testing.T) {
	f, p, s := filled(t, 60)
	d := &dice{3}
	for _, q := range asks(d, 60) {
		for _, of := range plan.Choice(q) {
			c, _ := f.Begin(q, of)
			for i := 0; !c.Done() && i < 300; i++ {
				c.Step(1)
				k := d.roll(len(p))
				change(t, f, p[k], s[k], false)
				change(t, f, p[k], s[k], true)
			}
			c.Step(math.MaxInt)
			if !c.Done() {
				t.Error("does not end", q, of)
			}
			c.Answer()
		}
	}
}

func TestNil(t *testing.T) {
	var c *cursor.Cursor
	a, ok := c.Answer()
	if n, done := c.Step(4); n != 0 || !done || !c.Done() || a.N != 0 || len(a.IDs) != 0 || ok || c.Steps() != 0 || c.Of() != 0 {
		t.Error("nil")
	}
}
