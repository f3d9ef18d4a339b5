package table_test

import (
	"slices"
	"testing"

	"alidade/api"
	"alidade/table"
)

const far = api.MaxCoord

func pt(id, x, y int) api.Point { return api.Point{ID: id, X: x, Y: y} }

func sp(id, lo, hi int) api.Span { return api.Span{ID: id, Lo: lo, Hi: hi} }

func addP(id, x, y int) api.Change { return api.Change{Kind: api.AddPoint, Point: pt(id, x, y)} }

func addS(id, lo, hi int) api.Change { return api.Change{Kind: api.AddSpan, Span: sp(id, lo, hi)} }

func dropP(id int) api.Change { return api.Change{Kind: api.DropPoint, Point: pt(id, 0, 0)} }

func dropS(id int) api.Change { return api.Change{Kind: api.DropSpan, Span: sp(id, 0, 0)} }

func made(t *testing.T, most int, l ...api.Change) *table.Table {
	t.Helper()
	k, e := table.New(most)
	if k == nil || e != api.OK || k.Most() != most {
		t.Fatal(most, e)
	}
	for _, c := range l {
		if _, e := k.Do(c); e != api.OK {
			t.Fatal(c, e)
		}
	}
	return k
}

func TestNew(t *testing.T) {
	for _, most := range []int{0, -1, api.MaxPool + 1, 1 << 62} {
		if k, e := table.New(most); k != nil || e != api.ErrArg {
			t.Error(most, e)
		}
	}
	if k := made(t, api.MaxPool); k.Len() != 0 || len(k.Points()) != 0 || len(k.Spans()) != 0 {
		t.Error("empty")
	}
}

func TestJudge(t *testing.T) {
	for _, c := range []struct {
		c api.Change
		e api.Errno
	}{
		{api.Change{}, api.ErrArg}, {api.Change{Kind: -1, Point: pt(1, 0, 0), Span: sp(1, 0, 0)}, api.ErrArg}, {api.Change{Kind: 5, Point: pt(1, 0, 0), Span: sp(1, 0, 0)}, api.ErrArg},
		{addP(1, far, -far), api.OK}, {addP(api.MaxID, 0, 0), api.OK}, {addP(0, 0, 0), api.ErrArg}, {addP(api.MaxID+1, 0, 0), api.ErrArg}, {addP(-1, far+1, 0), api.ErrArg},
		{addP(1, far+1, 0), api.ErrRange}, {addP(1, 0, -far-1), api.ErrRange}, {addP(1, 5, 3), api.OK},
		{addS(1, -far, far), api.OK}, {addS(0, 1, 0), api.ErrArg}, {addS(api.MaxID+1, 0, 0), api.ErrArg}, {addS(1, 0, far+1), api.ErrRange}, {addS(1, far+1, 0), api.ErrRange}, {addS(1, -far-1, 0), api.ErrRange},
		{addS(1, 5, 3), api.ErrOrder}, {addS(1, 5, 5), api.OK}, {addS(1, 0, -far-1), api.ErrRange},
		{dropP(1), api.OK}, {dropP(0), api.ErrArg}, {dropP(api.MaxID + 1), api.ErrArg}, {dropS(api.MaxID), api.OK}, {dropS(0), api.ErrArg},
		{api.Change{Kind: api.DropPoint, Point: pt(1, far+9, 0)}, api.OK}, {api.Change{Kind: api.DropSpan, Span: sp(1, far+9, -far-9)}, api.OK},
		{api.Change{Kind: api.AddPoint, Span: sp(1, 0, 0)}, api.ErrArg}, {api.Change{Kind: api.AddSpan, Point: pt(1, 0, 0)}, api.ErrArg},
		{api.Change{Kind: api.DropPoint, Span: sp(1, 0, 0)}, api.ErrArg}, {api.Change{Kind: api.DropSpan, Point: pt(1, 0, 0)}, api.ErrArg},
		{api.Change{Kind: api.AddPoint, Point: pt(1, 0, 0), Span: sp(0, 9, 0)}, api.OK},
	} {
		if e := table.Judge(c.c); e != c.e {
			t.Error("Judge", c.c, e)
		}
		// What is judged to be wrong may not be done, and leaves nothing.
		k := made(t, 5)
		w := c.e
		if w == api.OK && (c.c.Kind == api.DropPoint || c.c.Kind == api.DropSpan) {
			w = api.ErrNone
		}
		if e := k.May(c.c); e != w {
			t.Error("May", c.c, e)
		}
		back, e := k.Do(c.c)
		if e != w || e != api.OK && (back != (api.Change{}) || k.Len() != 0) {
			t.Error("Do", c.c, back, e)
		}
	}
}

func TestMay(t *testing.T) {
	k := made(t, 2, addP(1, 0, 0))
	for _, c := range []struct {
		c api.Change
		e api.Errno
	}{
		{addP(1, 5, 5), api.ErrDup}, {addS(1, 0, 0), api.OK}, {addP(2, 0, 0), api.OK}, {dropP(1), api.OK}, {dropS(1), api.ErrNone}, {dropP(2), api.ErrNone},
	} {
		if e := k.May(c.c); e != c.e {
			t.Error(c.c, e)
		}
	}
	k.Do(addS(1, 3, 4))
	for _, c := range []struct {
		c api.Change
		e api.Errno
	}{
		{addP(1, 5, 5), api.ErrDup}, {addS(1, 0, 0), api.ErrDup}, {addP(2, 0, 0), api.ErrFull}, {addS(2, 0, 0), api.ErrFull}, {addS(2, 1, 0), api.ErrOrder}, {addP(2, far+1, 0), api.ErrRange}, {dropS(2), api.ErrNone}, {dropS(1), api.OK},
	} {
		if e := k.May(c.c); e != c.e {
			t.Error(c.c, e)
		}
		if back, e := k.Do(c.c); c.e != api.OK && (e != c.e || back != (api.Change{}) || k.Len() != 2) {
			t.Error("Do", c.c, back, e)
		}
	}
	if k := made(t, 1, addP(1, 0, 0)); k.May(addS(1, 0, 0)) != api.ErrFull {
		t.Error("points and intervals together")
	}
}

func same(a, b *table.Table) bool {
	return slices.Equal(a.Points(), b.Points()) && slices.Equal(a.Spans(), b.Spans()) && a.Len() == b.Len() && a.Most() == b.Most()
}

func TestDoAndBack(t *testing.T) {
	k := made(t, 9, addP(4, 1, 2), addP(2, 3, 4), addS(4, 5, 6), addS(7, 8, 9))
	for _, c := range []struct{ c, back api.Change }{
		{addP(9, 1, -1), api.Change{Kind: api.DropPoint, Point: pt(9, 1, -1)}},
		{addS(2, 1, 1), api.Change{Kind: api.DropSpan, Span: sp(2, 1, 1)}},
		{dropP(4), addP(4, 1, 2)}, {dropS(7), addS(7, 8, 9)},
		{api.Change{Kind: api.AddPoint, Point: pt(9, 1, 1), Span: sp(3, 4, 5)}, api.Change{Kind: api.DropPoint, Point: pt(9, 1, 1)}},
		{api.Change{Kind: api.DropSpan, Point: pt(9, 1, 1), Span: sp(4, 99, 98)}, addS(4, 5, 6)},
		{api.Change{Kind: api.DropPoint, Point: pt(2, 77, 78), Span: sp(3, 4, 5)}, addP(2, 3, 4)},
	} {
		was := k.Clone()
		back, e := k.Do(c.c)
		if back != c.back || e != api.OK || same(k, was) {
			t.Error(c.c, back, e)
		}
		again, e := k.Do(back)
		if e != api.OK || !same(k, was) {
			t.Error("back", c.c, e)
		}
		if c.c.Kind == api.AddPoint && again != (api.Change{Kind: api.AddPoint, Point: c.c.Point}) {
			t.Error("and again", again)
		}
	}
}

func TestLists(t *testing.T) {
	k := made(t, 9, addP(4, 1, 2), addP(2, 3, 4), addS(4, 5, 6), addS(1, 8, 9), addP(3, 0, 0))
	for range 2 {
		p, s := k.Points(), k.Spans()
		if !slices.Equal(p, []api.Point{pt(2, 3, 4), pt(3, 0, 0), pt(4, 1, 2)}) || !slices.Equal(s, []api.Span{sp(1, 8, 9), sp(4, 5, 6)}) || k.Len() != 5 {
			t.Error(p, s)
		}
		p[0], s[0] = pt(9, 9, 9), sp(9, 9, 9)
	}
	if p, ok := k.Point(4); p != pt(4, 1, 2) || !ok {
		t.Error(p, ok)
	}
	if s, ok := k.Span(4); s != sp(4, 5, 6) || !ok {
		t.Error(s, ok)
	}
	if p, ok := k.Point(1); p != (api.Point{}) || ok {
		t.Error(p, ok)
	}
	if s, ok := k.Span(2); s != (api.Span{}) || ok {
		t.Error(s, ok)
	}
	c := k.Clone()
	c.Do(dropP(4))
	k.Do(dropS(4))
	if _, ok := k.Point(4); !ok || k.Len() != 4 {
		t.Error("Clone")
	}
	if _, ok := c.Span(4); !ok || c.Len() != 4 || c.Most() != 9 {
		t.Error("Clone")
	}
}

func TestNil(t *testing.T) {
	var k *table.Table
	p, ok := k.Point(1)
	s, fine := k.Span(1)
	back, e := k.Do(addP(1, 0, 0))
	if p != (api.Point{}) || ok || s != (api.Span{}) || fine || back != (api.Change{}) || e != api.ErrArg || k.May(addP(1, far+1, 0)) != api.ErrArg || len(k.Points()) != 0 || len(k.Spans()) != 0 || k.Len() != 0 || k.Most() != 0 || k.Clone() != nil {
		t.Error("nil")
	}
}
