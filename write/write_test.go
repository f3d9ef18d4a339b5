package write_test

import (
	"slices"
	"testing"

	"alidade/api"
	"alidade/cursor"
	"alidade/plan"
	"alidade/table"
	"alidade/write"
)

const far = api.MaxCoord

func pt(id, x, y int) api.Point { return api.Point{ID: id, X: x, Y: y} }

func sp(id, lo, hi int) api.Span { return api.Span{ID: id, Lo: lo, Hi: hi} }

func addP(id, x, y int) api.Change { return api.Change{Kind: api.AddPoint, Point: pt(id, x, y)} }

func addS(id, lo, hi int) api.Change { return api.Change{Kind: api.AddSpan, Span: sp(id, lo, hi)} }

func dropP(id int) api.Change { return api.Change{Kind: api.DropPoint, Point: pt(id, 0, 0)} }

func dropS(id int) api.Change { return api.Change{Kind: api.DropSpan, Span: sp(id, 0, 0)} }

func made(t *testing.T, most int, l ...api.Change) (*cursor.Five, *table.Table) {
	t.Helper()
	f, e := cursor.Make(most)
	k, g := table.New(most)
	if e != api.OK || g != api.OK {
		t.Fatal(e, g)
	}
	for _, c := range l {
		if e := write.Run(f, k, c); e != api.OK {
			t.Fatal(c, e)
		}
	}
	return f, k
}

// agree looks whether all indexes have just what these are.
func agree(t *testing.T, f *cursor.Five, p []api.Point, s []api.Span) {
	t.Helper()
	if !f.Check() || f.Kd.Len() != len(p) || f.Range.Len() != len(p) || f.Pst.Len() != len(p) || f.Itree.Len() != len(s) || f.Segs.Len() != len(s) {
		t.Fatal("lengths", f.Kd.Len(), f.Range.Len(), f.Pst.Len(), f.Itree.Len(), f.Segs.Len(), len(p), len(s))
	}
	for _, q := range p {
		if !f.Kd.Has(q) || !f.Range.Has(q) || !f.Pst.Has(q) {
			t.Fatal("not there", q)
		}
	}
	for _, u := range s {
		if !f.Itree.Has(u) || !f.Segs.Has(u) {
			t.Fatal("not there", u)
		}
	}
	q := api.Query{Kind: api.AskBox, Box: api.Box{X1: -far, X2: far, Y1: -far, Y2: far}}
	a, _ := cursor.Ask(f, q, api.OfRange)
	if w := plan.Plain(q, p, s); !slices.Equal(a.IDs, w.IDs) {
		t.Fatal(a, w)
	}
}

func start(t *testing.T) (*cursor.Five, *table.Table) {
	t.Helper()
	return made(t, 6, addP(1, 2, 3), addP(2, 2, 3), addS(1, 4, 9), addS(5, 0, 4))
}

var points, spans = []string{"kd", "range", "pst", "table"}, []string{"itree", "segs", "table"}

// there tells which of the steps' places have what the change is about.
func there(f *cursor.Five, k *table.Table, c api.Change) []bool {
	if c.Kind <= api.DropPoint {
		p, _ := k.Point(c.Point.ID)
		return []bool{f.Kd.Has(c.Point), f.Range.Has(c.Point), f.Pst.Has(c.Point), p == c.Point}
	}
	s, _ := k.Span(c.Span.ID)
	return []bool{f.Itree.Has(c.Span), f.Segs.Has(c.Span), s == c.Span}
}

func TestSteps(t *testing.T) {
	for _, c := range []struct {
		c, w  api.Change
		names []string
	}{
		{addP(7, 1, 1), addP(7, 1, 1), points}, {dropP(2), api.Change{Kind: api.DropPoint, Point: pt(2, 2, 3)}, points},
		{addS(7, 1, 5), addS(7, 1, 5), spans}, {dropS(1), api.Change{Kind: api.DropSpan, Span: sp(1, 4, 9)}, spans},
		{api.Change{Kind: api.AddPoint, Point: pt(7, 0, 0), Span: sp(1, 2, 3)}, addP(7, 0, 0), points}, {api.Change{Kind: api.AddSpan, Point: pt(7, 0, 0), Span: sp(3, 2, 3)}, addS(3, 2, 3), spans},
		{api.Change{Kind: api.DropPoint, Point: pt(1, 77, far+1), Span: sp(1, 2, 3)}, api.Change{Kind: api.DropPoint, Point: pt(1, 2, 3)}, points},
		{api.Change{Kind: api.DropSpan, Point: pt(1, 7, 7), Span: sp(5, 8, 7)}, api.Change{Kind: api.DropSpan, Span: sp(5, 0, 4)}, spans},
	} {
		for upTo := 0; upTo <= len(c.names); upTo++ {
			f, k := start(t)
			p, s := k.Points(), k.Spans()
			w, e := write.New(f, k, c.c)
			if w == nil || e != api.OK || w.Len() != len(c.names) || w.At() != 0 || w.Done() || w.Change() != c.w || !slices.Equal(w.Names(), c.names) {
				t.Fatal("New", c.c, e)
			}
			w.Names()[0] = "x"
			agree(t, f, p, s)
			comes := c.w.Kind == api.AddPoint || c.w.Kind == api.AddSpan
			look := func(done int) {
				t.Helper()
				if w.At() != done || w.Done() != (done == len(c.names)) || w.Change() != c.w || !slices.Equal(w.Names(), c.names) {
					t.Fatal("At", w.At(), done)
				}
				for i, has := range there(f, k, c.w) {
					if has != (comes == (i < done)) {
						t.Fatal("step", c.c, done, i, has)
					}
				}
			}
			if done, e := w.Back(); done || e != api.ErrState {
				t.Fatal("Back of none", done, e)
			}
			for i := range upTo {
				look(i)
				if done, e := w.Step(); done != (i+1 == len(c.names)) || e != api.OK {
					t.Fatal("Step", done, e)
				}
			}
			look(upTo)
			if upTo == len(c.names) {
				if done, e := w.Step(); done || e != api.ErrState {
					t.Fatal("Step of what is done", done, e)
				}
				agree(t, f, k.Points(), k.Spans())
				if n := k.Len(); comes && n != 5 || !comes && n != 3 {
					t.Fatal("Len", n)
				}
			}
			for i := upTo - 1; i >= 0; i-- {
				if none, e := w.Back(); none != (i == 0) || e != api.OK {
					t.Fatal("Back", none, e)
				}
				look(i)
			}
			agree(t, f, p, s)
			if !slices.Equal(k.Points(), p) || !slices.Equal(k.Spans(), s) {
				t.Fatal("not as it was")
			}
			for !w.Done() {
				w.Step()
			}
			look(len(c.names))
		}
	}
}

func TestErrors(t *testing.T) {
	f, k := start(t)
	for _, c := range []struct {
		c api.Change
		e api.Errno
	}{
		{api.Change{}, api.ErrArg}, {addP(0, 0, 0), api.ErrArg}, {addP(9, far+1, 0), api.ErrRange}, {addS(9, 5, 4), api.ErrOrder}, {addP(1, 0, 0), api.ErrDup}, {addS(5, 0, 0), api.ErrDup}, {dropP(3), api.ErrNone}, {dropS(2), api.ErrNone},
	} {
		p, e := write.New(f, k, c.c)
		if p != nil || e != c.e || write.Run(f, k, c.c) != c.e {
			t.Error(c.c, e)
		}
	}
	if write.Run(f, k, addP(8, 0, 0)) != api.OK || write.Run(f, k, addS(8, 0, 0)) != api.OK || write.Run(f, k, addS(9, 0, 0)) != api.ErrFull {
		t.Error("Run")
	}
	agree(t, f, k.Points(), k.Spans())
	for i, g := range []*cursor.Five{nil, {}, {Range: f.Range, Pst: f.Pst, Itree: f.Itree, Segs: f.Segs}, {Kd: f.Kd, Pst: f.Pst, Itree: f.Itree, Segs: f.Segs}, {Kd: f.Kd, Range: f.Range, Itree: f.Itree, Segs: f.Segs}, {Kd: f.Kd, Range: f.Range, Pst: f.Pst, Segs: f.Segs}, {Kd: f.Kd, Range: f.Range, Pst: f.Pst, Itree: f.Itree}} {
		for _, c := range []api.Change{dropP(1), dropP(44), addS(5, 9, 8)} {
			if p, e := write.New(g, k, c); p != nil || e != api.ErrArg || write.Run(g, k, c) != api.ErrArg {
				t.Error(i, e)
			}
		}
	}
	if p, e := write.New(f, nil, dropP(1)); p != nil || e != api.ErrArg || write.Run(f, nil, dropP(1)) != api.ErrArg {
		t.Error("no table", e)
	}
}

func TestAnIndexRefuses(t *testing.T) {
	f, k := start(t)
	p, _ := write.New(f, k, addP(7, 1, 1))
	p.Step()
	f.Range.Insert(pt(7, 1, 1))
	if done, e := p.Step(); done || e != api.ErrDup || p.At() != 1 {
		t.Error(done, e, p.At())
	}
	f.Kd.Delete(pt(7, 1, 1))
	if none, e := p.Back(); none || e != api.ErrNone || p.At() != 1 {
		t.Error(none, e, p.At())
	}
	f.Kd.Insert(pt(7, 1, 1))
	f.Range.Delete(pt(7, 1, 1))
	for !p.Done() {
		if _, e := p.Step(); e != api.OK {
			t.Fatal(e)
		}
	}
	agree(t, f, k.Points(), k.Spans())
}

func TestNil(t *testing.T) {
	var p *write.Program
	done, e := p.Step()
	none, g := p.Back()
	if done || e != api.ErrArg || none || g != api.ErrArg || p.Len() != 0 || p.At() != 0 || p.Done() || p.Change() != (api.Change{}) || len(p.Names()) != 0 {
		t.Error("nil")
	}
}
