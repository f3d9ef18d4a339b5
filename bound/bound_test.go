package bound_test

import (
	"math"
	"testing"

	"alidade/api"
	"alidade/bound"
	"alidade/cursor"
	"alidade/kd"
	"alidade/plan"
	"alidade/server"
)

const far = api.MaxCoord

type dice struct{ n uint32 }

func (d *dice) roll(most int) int {
	d.n = d.n*1664525 + 1013904223
	return int(d.n>>12) % most
}

func TestFormulas(t *testing.T) {
	if bound.Cursor(0) != 200 || bound.Reply(0, 2) != 615 {
		t.Error("examples")
	}
	for _, n := range []int{math.MinInt, -1, 0, 1, 2, 77, api.MaxPool - 1, api.MaxPool, api.MaxPool + 1, math.MaxInt} {
		m := max(0, min(n, 1<<20))
		c := 4*m + 200
		if bound.Cursor(n) != c || bound.Attempt(n) != c+2 || bound.Turn(n) != c+10 {
			t.Error(n, bound.Cursor(n), bound.Attempt(n), bound.Turn(n))
		}
		for _, b := range []int{math.MinInt, -1, 0, 1, 2, 63, 64, 65, 999, 1000, 1001, math.MaxInt} {
			if got, w := bound.Reply(n, b), max(0, min(b, 1000))*(c+2)+c+10+1; got != w {
				t.Error("Reply", n, b, got, w)
			}
			if got, w := bound.Queue(n, b), max(0, min(b, 64))*(c+10+1); got != w {
				t.Error("Queue", n, b, got, w)
			}
		}
	}
}

func filled(t *testing.T, n int, shape func(i int) (api.Point, api.Span)) *cursor.Five {
	t.Helper()
	f, _ := cursor.Make(5000)
	for i := range n {
		p, s := shape(i)
		for _, e := range []api.Errno{f.Kd.Insert(p), f.Range.Insert(p), f.Pst.Insert(p), f.Itree.Insert(s), f.Segs.Insert(s)} {
			if e != api.OK {
				t.Fatal(e)
			}
		}
	}
	return f
}

func TestNodes(t *testing.T) {
	shapes := []func(i int) (api.Point, api.Span){
		func(i int) (api.Point, api.Span) {
			return api.Point{ID: i + 1, X: i, Y: i}, api.Span{ID: i + 1, Lo: i, Hi: i}
		},
		func(i int) (api.Point, api.Span) {
			return api.Point{ID: i + 1, X: i * 37 % 101, Y: i * 53 % 97}, api.Span{ID: i + 1, Lo: -i, Hi: i}
		},
		func(i int) (api.Point, api.Span) {
			return api.Point{ID: i + 1, X: 5, Y: -i}, api.Span{ID: i + 1, Lo: i * 37 % 101, Hi: i*37%101 + 3}
		},
	}
	for _, shape := range shapes {
		for _, n := range []int{0, 1, 2, 3, 10, 100, 500} {
			f := filled(t, n, shape)
			nodes := bound.Nodes(f)
			for i, steps := range nodes {
				of := i + 1
				q := []api.Query{{Kind: 1}, {Kind: 1}, {Kind: 3}, {Kind: 6}, {Kind: 6}}[i]
				q.Box, q.Win = api.Box{X1: -far, X2: far, Y1: -far, Y2: far}, api.Win{X1: -far, X2: far, Y: -far}
				q.X, q.Hi = -far, far
				c, e := f.Begin(q, of)
				if e != api.OK {
					t.Fatal(e)
				}
				c.Step(math.MaxInt)
				if steps != c.Steps() || steps > bound.Cursor(n) {
					t.Error("Nodes", of, steps, c.Steps())
				}
			}
			if nodes[0] < n || nodes[2] != n {
				t.Error("all are looked at", n, nodes)
			}
		}
	}
	k, _ := kd.New(1)
	for _, f := range []*cursor.Five{nil, {}, {Kd: k}} {
		if bound.Nodes(f) != [5]int{} {
			t.Error("not whole")
		}
	}
}

// some is a request.
func some(d *dice, ids int) api.Request {
	id, x, y, w := 1+d.roll(ids), d.roll(ids), d.roll(ids), d.roll(ids/2+1)
	if k := d.roll(10); k < 6 {
		return api.Request{Kind: api.WantChange, Change: api.Change{Kind: 1 + k%4, Point: api.Point{ID: id, X: x, Y: y}, Span: api.Span{ID: id, Lo: x, Hi: x + w}}}
	}
	return api.Request{Kind: api.WantQuery, Query: api.Query{Kind: 1 + d.roll(7), Box: api.Box{X1: x, X2: x + w, Y1: y, Y2: y + w}, Win: api.Win{X1: x, X2: x + w, Y: y}, X: x, Hi: x + w}}
}

func TestNoCursorTakesMore(t *testing.T) {
	for _, ids := range []int{1, 3, 20, 100} {
		d := &dice{uint32(ids)}
		s, _ := server.New(api.Setup{Most: 300, Sessions: 1, Budget: 1})
		all := s.Catalog()
		for range 4 * ids {
			r := some(d, ids)
			if s.Want(0, r) != api.OK {
				t.Fatal(r)
			}
			n := all.Len()
			left := bound.Left(s, 0, 1)
			if left != bound.Queue(n+1, 0)+bound.Reply(n+1, 1) {
				t.Fatal("Left", left)
			}
			steps, ok := bound.Alone(s, 0, 1<<30)
			if !ok || steps > bound.Reply(n, 1) || steps > left {
				t.Fatal("Alone", r, steps, ok)
			}
			for kind := 1; kind <= api.AskKinds; kind++ {
				q := api.Query{Kind: kind, Box: api.Box{X1: -far, X2: far, Y1: -far, Y2: far}, Win: api.Win{X1: -far, X2: far, Y: -far}, X: d.roll(ids), Hi: far}
				for _, of := range plan.Choice(q) {
					c, _ := all.Look(q, of)
					if c.Step(math.MaxInt); c.Steps() > bound.Cursor(all.Len()) {
						t.Fatal("Cursor", q, of, c.Steps())
					}
				}
			}
		}
	}
}

func TestLeftAndAlone(t *testing.T) {
	d := &dice{4}
	s, _ := server.New(api.Setup{Most: 50, Sessions: 4, Budget: 2})
	add := func(id int) api.Request {
		return api.Request{Kind: api.WantChange, Change: api.Change{Kind: api.AddPoint, Point: api.Point{ID: id, X: d.roll(9), Y: d.roll(9)}}}
	}
	for _, id := range []int{0, 3, 4, -1} {
		if n, ok := bound.Alone(s, id, 9); n != 0 || !ok || bound.Left(s, id, 2) != 0 {
			t.Error("idle, or gone", id)
		}
	}
	for id := range 3 {
		s.Want(id, add(id+1))
	}
	for id := range 3 {
		if n := bound.Left(s, id, 2); n != bound.Queue(1, id)+bound.Reply(1, 2) {
			t.Error("Left", id, n)
		}
	}
	if n, ok := bound.Alone(s, 1, 7); n != 7 || ok || s.Steps() != 10 {
		t.Error("it waits", n, ok)
	}
	if n, ok := bound.Alone(s, 1, 0); n != 0 || ok {
		t.Error("no steps", n, ok)
	}
	if n, ok := bound.Alone(s, 1, -5); n != 0 || ok || s.Steps() != 10 {
		t.Error("no steps", n, ok)
	}
	if n, ok := bound.Alone(s, 0, 5); n != 5 || ok {
		t.Error("not yet", n, ok)
	}
	if n, ok := bound.Alone(s, 0, 5); n != 1 || !ok {
		t.Error("now", n, ok)
	}
	if n := bound.Left(s, 1, 1000); n != bound.Queue(2, 0)+bound.Reply(2, 1000) {
		t.Error("Left", n)
	}
	if n, ok := bound.Alone(s, 1, 99); n != 6 || !ok {
		t.Error(n, ok)
	}
	s.Abort(2)
	if bound.Left(s, 2, 5) != 0 {
		t.Error("gone")
	}
	if n, ok := bound.Alone(nil, 0, 9); n != 0 || !ok || bound.Left(nil, 0, 9) != 0 {
		t.Error("no server", n, ok)
	}
}

// first is who comes ahead of all others in the queue, if that is not id; else -1.
func first(s *server.Server, id int) int {
	for other := range 5 {
		if n, there := s.Ahead(other); there && n == 0 && other != id {
			return other
		}
	}
	return -1
}

// P6: a session is replied within its bound, counted from when nobody comes ahead of it.
func TestInTime(t *testing.T) {
	for seed := range uint32(30) {
		d := &dice{seed*7 + 1}
		budget := d.roll(4)
		s, _ := server.New(api.Setup{Most: 60, Sessions: 5, Budget: budget})
		for range 60 {
			for id := range 5 {
				if s.Phase(id) == api.Idle {
					s.Want(id, some(d, 20))
				}
			}
			for range d.roll(40) {
				s.Step(d.roll(5))
			}
			if d.roll(15) == 0 {
				s.Abort(d.roll(5))
			}
			// Whoever comes ahead is stepped to its end; from then on the session has its bound, alone.
			id := d.roll(5)
			for other := first(s, id); other >= 0; other = first(s, id) {
				if _, ok := bound.Alone(s, other, bound.Reply(60, budget)); !ok {
					t.Fatal("not in time", other)
				}
			}
			if steps, ok := bound.Alone(s, id, bound.Reply(s.Catalog().Len(), budget)); !ok {
				t.Fatal("not in time", id, steps, s.Phase(id))
			}
		}
	}
}
