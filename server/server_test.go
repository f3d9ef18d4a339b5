package server_test

import (
	"bytes"
	"slices"
	"testing"

	"alidade/api"
	"alidade/codec"
	"alidade/cursor"
	"alidade/frame"
	"alidade/plan"
	"alidade/reply"
	"alidade/server"
	"alidade/table"
)

const far = api.MaxCoord

type dice struct{ n uint32 }

func (d *dice) roll(most int) int {
	d.n = d.n*1664525 + 1013904223
	return int(d.n>>12) % most
}

func change(c api.Change) api.Request { return api.Request{Kind: api.WantChange, Change: c} }

func query(q api.Query) api.Request { return api.Request{Kind: api.WantQuery, Query: q} }

func addP(id, x, y int) api.Request {
	return change(api.Change{Kind: api.AddPoint, Point: api.Point{ID: id, X: x, Y: y}})
}

func dropP(id int) api.Request {
	return change(api.Change{Kind: api.DropPoint, Point: api.Point{ID: id}})
}

func addS(id, lo, hi int) api.Request {
	return change(api.Change{Kind: api.AddSpan, Span: api.Span{ID: id, Lo: lo, Hi: hi}})
}

func dropS(id int) api.Request {
	return change(api.Change{Kind: api.DropSpan, Span: api.Span{ID: id}})
}

func all() api.Request {
	return query(api.Query{Kind: api.AskBox, Box: api.Box{X1: -far, X2: far, Y1: -far, Y2: far}})
}

func made(t *testing.T, most, sessions, budget int) *server.Server {
	t.Helper()
	s, e := server.New(api.Setup{Most: most, Sessions: sessions, Budget: budget})
	if s == nil || e != api.OK {
		t.Fatal(e)
	}
	return s
}

func want(t *testing.T, s *server.Server, id int, r api.Request) {
	t.Helper()
	if e := s.Want(id, r); e != api.OK {
		t.Fatal("Want", id, r, e)
	}
}

// quiet steps a session n times, none of which replies.
func quiet(t *testing.T, s *server.Server, id, n int) {
	t.Helper()
	for range n {
		if r, told, e := s.Step(id); told || e != api.OK || !reply.Same(r, api.Reply{}) {
			t.Fatal("Step", id, r, told, e)
		}
	}
}

// told steps a session once, which replies.
func told(t *testing.T, s *server.Server, id int, w api.Reply) {
	t.Helper()
	r, ok, e := s.Step(id)
	if !ok || e != api.OK || !reply.Same(r, w) || s.Phase(id) != api.Idle {
		t.Fatal("Step", id, r, ok, e, w, s.Phase(id))
	}
}

// run wants something, and steps till it is replied.
func run(t *testing.T, s *server.Server, id int, r api.Request) api.Reply {
	t.Helper()
	want(t, s, id, r)
	for range 100000 {
		w, ok, e := s.Step(id)
		if e != api.OK {
			t.Fatal("Step", id, r, e)
		}
		if ok {
			return w
		}
	}
	t.Fatal("no reply", r)
	return api.Reply{}
}

func phase(t *testing.T, s *server.Server, id int, w api.Phase) {
	t.Helper()
	if p := s.Phase(id); p != w {
		t.Fatal("Phase", id, p, w)
	}
}

func event(e, w api.Event) bool {
	return e.Kind == w.Kind && e.Step == w.Step && e.Session == w.Session && e.Op == w.Op && e.Request == w.Request && reply.Same(e.Reply, w.Reply)
}

// happened looks whether just these events happened, behind the first from ones.
func happened(t *testing.T, s *server.Server, from int, w ...api.Event) {
	t.Helper()
	l := s.Events()[from:]
	if !slices.EqualFunc(l, w, event) {
		t.Fatalf("%v\nnot\n%v", l, w)
	}
}

func TestNew(t *testing.T) {
	for _, c := range []api.Setup{{Most: 0, Sessions: 1}, {Most: api.MaxPool + 1, Sessions: 1}, {Most: 1}, {Most: 1, Sessions: api.MaxSessions + 1}, {Most: 1, Sessions: -1}, {Most: 1, Sessions: 1, Budget: -1}, {Most: 1, Sessions: 1, Budget: api.MaxTries + 1}, {Most: -1, Sessions: 1}} {
		if s, e := server.New(c); s != nil || e != api.ErrArg {
			t.Error(c, e)
		}
	}
	made(t, api.MaxPool, api.MaxSessions, api.MaxTries)
	s := made(t, 1, 2, 0)
	phase(t, s, 0, api.Idle)
	phase(t, s, 1, api.Idle)
	phase(t, s, 2, api.Gone)
	phase(t, s, -1, api.Gone)
	if s.Steps() != 0 || len(s.Events()) != 0 || s.Catalog().Len() != 0 || !s.Catalog().Agree() || s.Catalog().Version() != 0 {
		t.Error("empty")
	}
	if n, ok := s.Ahead(0); n != 0 || ok {
		t.Error("Ahead")
	}
}

func TestNoSuchSession(t *testing.T) {
	s := made(t, 5, 2, 1)
	for _, id := range []int{-1, 2, 1 << 62, -1 << 63} {
		r, ok, e := s.Step(id)
		b, f := s.Send(id, []byte{0, 0})
		n, there := s.Ahead(id)
		if s.Want(id, addP(1, 0, 0)) != api.ErrArg || !reply.Same(r, api.Reply{}) || ok || e != api.ErrArg || len(b) != 0 || f != api.ErrArg || s.Abort(id) != api.ErrArg || n != 0 || there {
			t.Error(id)
		}
	}
	if s.Steps() != 0 || len(s.Events()) != 0 {
		t.Error("a step is counted", s.Steps())
	}
}

func TestAChange(t *testing.T) {
	s := made(t, 5, 1, 1)
	r := addP(1, 2, 3)
	junk := r
	junk.Query, junk.Change.Span = all().Query, api.Span{ID: 4}
	want(t, s, 0, junk)
	phase(t, s, 0, api.Waits)
	if n, ok := s.Ahead(0); n != 0 || !ok {
		t.Error("it wants its turn")
	}
	quiet(t, s, 0, 1)
	phase(t, s, 0, api.Holds)
	if _, writing := s.Catalog().Writing(); writing {
		t.Error("not begun yet")
	}
	for i := range 4 {
		quiet(t, s, 0, 1)
		if c, writing := s.Catalog().Writing(); c != r.Change || !writing || s.Catalog().Version() != 0 || s.Catalog().Len() != 0 {
			t.Error("under way", i)
		}
	}
	told(t, s, 0, reply.Changed(api.OK))
	if !s.Catalog().Agree() || s.Catalog().Version() != 1 || s.Catalog().Len() != 1 || s.Steps() != 7 {
		t.Error("done", s.Steps())
	}
	if _, ok := s.Ahead(0); ok {
		t.Error("the turn is released")
	}
	ok := reply.Changed(api.OK)
	happened(t, s, 0, api.Event{Kind: api.Invoked, Step: 1, Op: 1, Request: r}, api.Event{Kind: api.Took, Step: 7, Op: 1, Request: r, Reply: ok}, api.Event{Kind: api.Replied, Step: 7, Op: 1, Request: r, Reply: ok})
	if r, told, e := s.Step(0); !reply.Same(r, api.Reply{}) || told || e != api.ErrState || s.Steps() != 8 {
		t.Error("it is Idle", e, s.Steps())
	}
	want(t, s, 0, addP(1, 9, 9))
	quiet(t, s, 0, 1)
	told(t, s, 0, reply.Changed(api.ErrDup))
	want(t, s, 0, addS(1, 9, 8))
	quiet(t, s, 0, 1)
	told(t, s, 0, reply.Changed(api.ErrOrder))
	want(t, s, 0, addS(1, 8, 9))
	quiet(t, s, 0, 4)
	told(t, s, 0, ok)
	if s.Catalog().Version() != 2 || s.Catalog().Len() != 2 {
		t.Error("Version")
	}
}

func TestAQuery(t *testing.T) {
	for _, budget := range []int{0, 1, 5} {
		s := made(t, 50, 1, budget)
		five, _ := cursor.Make(50)
		for i := range 20 {
			r := addP(i+1, i*7%10, i*3%8)
			run(t, s, 0, r)
			five.Kd.Insert(r.Change.Point)
			five.Range.Insert(r.Change.Point)
			five.Pst.Insert(r.Change.Point)
			u := addS(i+1, i*7%10, i*7%10+i%4)
			run(t, s, 0, u)
			five.Itree.Insert(u.Change.Span)
			five.Segs.Insert(u.Change.Span)
		}
		for kind := 1; kind <= api.AskKinds; kind++ {
			q := api.Query{Kind: kind, Box: api.Box{X1: 2, X2: 7, Y1: 1, Y2: 6}, Win: api.Win{X1: 2, X2: 6, Y: 3}, X: 3, Hi: 5}
			of, _ := plan.First(q)
			c, _ := five.Begin(q, of)
			c.Step(1 << 40)
			a, _ := c.Answer()
			want(t, s, 0, query(q))
			if budget == 0 {
				phase(t, s, 0, api.Waits)
				quiet(t, s, 0, 1)
				phase(t, s, 0, api.Holds)
			} else {
				phase(t, s, 0, api.Reads)
			}
			// A step to have a cursor, and one for each of the cursor's: with the last one the answer is told.
			quiet(t, s, 0, c.Steps())
			told(t, s, 0, reply.Told(q, a, api.OK))
			if n := s.Catalog().Len(); n != 40 || s.Catalog().Version() != 40 {
				t.Error("changed", n)
			}
		}
		bad := query(api.Query{Kind: api.AskStab, X: far + 1})
		want(t, s, 0, bad)
		if budget == 0 {
			quiet(t, s, 0, 1)
		}
		told(t, s, 0, api.Reply{Code: api.ErrRange})
		l := s.Events()
		happened(t, s, len(l)-2, api.Event{Kind: api.Took, Step: s.Steps(), Op: 48, Request: bad, Reply: api.Reply{Code: api.ErrRange}}, api.Event{Kind: api.Replied, Step: s.Steps(), Op: 48, Request: bad, Reply: api.Reply{Code: api.ErrRange}})
	}
}

func TestWhatIsRefused(t *testing.T) {
	s := made(t, 5, 2, 1)
	want(t, s, 1, addP(1, 2, 3))
	junk := all()
	junk.Query.X, junk.Change.Kind = 9, 2
	if s.Want(1, junk) != api.ErrBusy || s.Want(1, api.Request{Kind: 1, Query: all().Query}) != api.ErrForm || s.Want(0, api.Request{Kind: 7}) != api.ErrForm {
		t.Error("codes")
	}
	want(t, s, 0, all())
	s.Abort(1)
	if s.Want(1, addP(2, 0, 0)) != api.ErrState || s.Want(1, api.Request{}) != api.ErrState || s.Steps() != 8 {
		t.Error("gone", s.Steps())
	}
	busy, form := reply.Changed(api.ErrBusy), reply.Changed(api.ErrForm)
	happened(t, s, 0,
		api.Event{Kind: api.Invoked, Step: 1, Session: 1, Op: 1, Request: addP(1, 2, 3)},
		api.Event{Kind: api.Refused, Step: 2, Session: 1, Op: 2, Request: all(), Reply: busy},
		api.Event{Kind: api.Refused, Step: 3, Session: 1, Reply: form},
		api.Event{Kind: api.Refused, Step: 4, Session: 0, Reply: form},
		api.Event{Kind: api.Invoked, Step: 5, Session: 0, Op: 3, Request: all()},
		api.Event{Kind: api.Aborted, Step: 6, Session: 1, Op: 1, Request: addP(1, 2, 3)})
}

func TestTurns(t *testing.T) {
	s := made(t, 9, 4, 1)
	for id := range 3 {
		want(t, s, id, addP(id+1, 0, 0))
	}
	ahead := func(w ...int) {
		t.Helper()
		for id, n := range w {
			if got, ok := s.Ahead(id); got != max(n, 0) || ok != (n >= 0) {
				t.Fatal("Ahead", id, got, ok)
			}
		}
	}
	ahead(0, 1, 2, -1)
	quiet(t, s, 1, 2)
	quiet(t, s, 2, 1)
	phase(t, s, 1, api.Waits)
	quiet(t, s, 0, 1)
	phase(t, s, 0, api.Holds)
	quiet(t, s, 1, 3)
	phase(t, s, 1, api.Waits)
	ahead(0, 1, 2, -1)
	quiet(t, s, 0, 4)
	told(t, s, 0, reply.Changed(api.OK))
	ahead(-1, 0, 1, -1)
	quiet(t, s, 2, 1)
	phase(t, s, 2, api.Waits)
	want(t, s, 0, dropP(1))
	if s.Abort(1) != api.OK {
		t.Error("Abort")
	}
	ahead(1, -1, 0, -1)
	quiet(t, s, 2, 1)
	phase(t, s, 2, api.Holds)
	if s.Abort(2) != api.OK || s.Abort(2) != api.ErrState {
		t.Error("Abort of who has its turn")
	}
	ahead(0, -1, -1, -1)
	quiet(t, s, 0, 5)
	told(t, s, 0, reply.Changed(api.OK))
}

func TestAReadThatFails(t *testing.T) {
	s := made(t, 9, 3, 2)
	for i := range 4 {
		run(t, s, 2, addP(i+5, i, i))
	}
	want(t, s, 0, all())
	quiet(t, s, 0, 2)
	want(t, s, 1, addP(1, 0, 0))
	quiet(t, s, 1, 1)
	quiet(t, s, 0, 1)
	phase(t, s, 0, api.Reads)
	// Once the change has begun, the cursor is gone with the next step; then there is none while it is under way.
	quiet(t, s, 1, 1)
	quiet(t, s, 0, 1)
	phase(t, s, 0, api.Reads)
	if _, waits := s.Ahead(0); waits {
		t.Error("who reads does not wait")
	}
	quiet(t, s, 0, 1)
	phase(t, s, 0, api.Waits)
	if n, waits := s.Ahead(0); n != 1 || !waits {
		t.Error("it wants its turn", n, waits)
	}
	quiet(t, s, 1, 3)
	told(t, s, 1, reply.Changed(api.OK))
	quiet(t, s, 0, 1)
	phase(t, s, 0, api.Holds)
	// By its turn nobody comes in between: a change waits.
	want(t, s, 1, addP(2, 0, 0))
	quiet(t, s, 0, 1)
	quiet(t, s, 1, 3)
	phase(t, s, 1, api.Waits)
	for {
		r, ok, e := s.Step(0)
		if e != api.OK {
			t.Fatal(e)
		}
		if ok {
			if !slices.Equal(r.Answer.IDs, []int{1, 5, 6, 7, 8}) || !r.Listed || !r.Asked {
				t.Error(r)
			}
			break
		}
	}
	quiet(t, s, 1, 1)
	phase(t, s, 1, api.Holds)
}

func TestAChangeThatIsDoneInBetween(t *testing.T) {
	s := made(t, 9, 3, 5)
	for i := range 4 {
		run(t, s, 2, addP(i+5, i, i))
	}
	want(t, s, 0, all())
	quiet(t, s, 0, 2)
	run(t, s, 1, dropP(6))
	quiet(t, s, 0, 1)
	phase(t, s, 0, api.Reads)
	quiet(t, s, 0, 1)
	for {
		if r, ok, _ := s.Step(0); ok {
			if !slices.Equal(r.Answer.IDs, []int{5, 7, 8}) {
				t.Error("an old version", r)
			}
			break
		}
	}
}

func TestAChangeThatWasTurnedBackInBetween(t *testing.T) {
	s := made(t, 9, 3, 1)
	for i := range 4 {
		run(t, s, 2, addP(i+5, i, i))
	}
	want(t, s, 0, all())
	quiet(t, s, 0, 2)
	want(t, s, 1, dropP(6))
	quiet(t, s, 1, 3)
	s.Abort(1)
	for s.Clean() {
	}
	if s.Catalog().Version() != 4 || !s.Catalog().Agree() {
		t.Error("turned back")
	}
	// The version is what it was, but what the cursor saw may not be.
	quiet(t, s, 0, 1)
	phase(t, s, 0, api.Waits)
	if n, waits := s.Ahead(0); n != 0 || !waits {
		t.Error("it wants its turn", n, waits)
	}
	quiet(t, s, 0, 2)
	phase(t, s, 0, api.Holds)
	for {
		if r, ok, _ := s.Step(0); ok {
			if !slices.Equal(r.Answer.IDs, []int{5, 6, 7, 8}) {
				t.Error("nothing is left of it", r)
			}
			break
		}
	}
}

func TestAbort(t *testing.T) {
	s := made(t, 9, 5, 1)
	if s.Abort(0) != api.OK || s.Abort(0) != api.ErrState || s.Steps() != 2 || len(s.Events()) != 0 {
		t.Error("one that is Idle")
	}
	phase(t, s, 0, api.Gone)
	if r, ok, e := s.Step(0); !reply.Same(r, api.Reply{}) || ok || e != api.ErrState {
		t.Error("Step of one that is gone", e)
	}
	if b, e := s.Send(0, []byte{0, 0}); len(b) != 0 || e != api.ErrState || s.Steps() != 4 || len(s.Events()) != 0 {
		t.Error("Send to one that is gone", e)
	}
	want(t, s, 1, all())
	quiet(t, s, 1, 1)
	s.Abort(1)
	want(t, s, 2, addP(1, 0, 0))
	s.Abort(2)
	want(t, s, 3, addP(1, 0, 0))
	quiet(t, s, 3, 1)
	s.Abort(3)
	if s.Clean() {
		t.Error("nothing was begun")
	}
	happened(t, s, 0,
		api.Event{Kind: api.Invoked, Step: 5, Session: 1, Op: 1, Request: all()}, api.Event{Kind: api.Aborted, Step: 7, Session: 1, Op: 1, Request: all()},
		api.Event{Kind: api.Invoked, Step: 8, Session: 2, Op: 2, Request: addP(1, 0, 0)}, api.Event{Kind: api.Aborted, Step: 9, Session: 2, Op: 2, Request: addP(1, 0, 0)},
		api.Event{Kind: api.Invoked, Step: 10, Session: 3, Op: 3, Request: addP(1, 0, 0)}, api.Event{Kind: api.Aborted, Step: 12, Session: 3, Op: 3, Request: addP(1, 0, 0)})
	if r := run(t, s, 4, addP(1, 5, 5)); !reply.Same(r, reply.Changed(api.OK)) {
		t.Error(r)
	}
}

func TestAbortOfAChange(t *testing.T) {
	for _, c := range []struct {
		r     api.Request
		steps int
		comes bool
	}{{addP(9, 1, 1), 4, true}, {dropP(1), 4, false}, {addS(9, 1, 1), 3, true}, {dropS(1), 3, false}} {
		for done := range c.steps {
			for _, by := range []string{"Clean", "Step"} {
				s := made(t, 9, 3, 1)
				for _, r := range []api.Request{addP(1, 2, 3), addP(2, 2, 3), addS(1, 4, 5), addS(2, 4, 6)} {
					run(t, s, 0, r)
				}
				want(t, s, 1, c.r)
				quiet(t, s, 1, 2+done)
				from, step := len(s.Events()), s.Steps()
				s.Abort(1)
				phase(t, s, 1, api.Gone)
				aborted := api.Event{Kind: api.Aborted, Step: step + 1, Session: 1, Op: 5, Request: c.r}
				happened(t, s, from, aborted)
				whole := 2*done >= c.steps
				cleans := done
				if whole {
					cleans = c.steps - done
				} else if done == 0 {
					cleans = 1
				}
				want(t, s, 0, addP(7, 0, 0))
				if by == "Step" {
					quiet(t, s, 0, 1)
					phase(t, s, 0, api.Holds)
				}
				for i := range cleans {
					if _, writing := s.Catalog().Writing(); !writing {
						t.Fatal("cleaned too early", c.r, done, i)
					}
					if by == "Step" {
						quiet(t, s, 0, 1)
					} else if !s.Clean() {
						t.Fatal("Clean", c.r, done, i)
					}
				}
				if _, writing := s.Catalog().Writing(); writing || !s.Catalog().Agree() {
					t.Fatal("not clean", c.r, done)
				}
				last := s.Steps()
				if by == "Clean" && s.Clean() {
					t.Fatal("there is nothing any more")
				}
				n := 4
				if whole && c.comes {
					n = 5
				} else if whole {
					n = 3
				}
				if s.Catalog().Len() != n {
					t.Fatal("Len", c.r, done, s.Catalog().Len(), n)
				}
				w := []api.Event{aborted, {Kind: api.Invoked, Step: step + 2, Session: 0, Op: 6, Request: addP(7, 0, 0)}}
				if whole {
					w = append(w, api.Event{Kind: api.Took, Step: last, Session: 1, Op: 5, Request: c.r, Reply: reply.Changed(api.OK)})
				}
				happened(t, s, from, w...)
				if by == "Clean" {
					quiet(t, s, 0, 1)
				}
				quiet(t, s, 0, 4)
				told(t, s, 0, reply.Changed(api.OK))
			}
		}
	}
}

func wrapped(t *testing.T, l ...api.Request) []byte {
	t.Helper()
	var f [][]byte
	for _, r := range l {
		b, _ := codec.Encode(r)
		f = append(f, b)
	}
	b, e := frame.Wrap(f...)
	if e != api.OK {
		t.Fatal(e)
	}
	return b
}

func TestSend(t *testing.T) {
	s := made(t, 9, 2, 1)
	one := wrapped(t, addP(1, 2, 3))
	if b, e := s.Send(0, one[:3]); len(b) != 0 || e != api.OK || len(s.Events()) != 0 {
		t.Error(b, e)
	}
	phase(t, s, 0, api.Idle)
	if b, e := s.Send(0, one[3:]); len(b) != 0 || e != api.OK {
		t.Error(b, e)
	}
	phase(t, s, 0, api.Waits)
	more := append(wrapped(t, addP(2, 0, 0)), 0, 2, 99, 1, 0, 0)
	if b, e := s.Send(0, append(more, 0)); !bytes.Equal(b, []byte{0, 1, 7, 0, 1, 8, 0, 1, 8}) || e != api.OK {
		t.Error(b, e)
	}
	busy, form := reply.Changed(api.ErrBusy), reply.Changed(api.ErrForm)
	happened(t, s, 0, api.Event{Kind: api.Invoked, Step: 2, Op: 1, Request: addP(1, 2, 3)}, api.Event{Kind: api.Refused, Step: 3, Op: 2, Request: addP(2, 0, 0), Reply: busy},
		api.Event{Kind: api.Refused, Step: 3, Reply: form}, api.Event{Kind: api.Refused, Step: 3, Reply: form})
	quiet(t, s, 0, 5)
	told(t, s, 0, reply.Changed(api.OK))
	// One byte waits: with what comes now it is a whole frame.
	if b, e := s.Send(0, wrapped(t, all())[1:]); len(b) != 0 || e != api.OK {
		t.Error(b, e)
	}
	phase(t, s, 0, api.Reads)
	long := append(append(wrapped(t, all(), addP(5, 5, 5)), 3, 0xe9), one...)
	if b, e := s.Send(1, long); !bytes.Equal(b, []byte{0, 1, 7}) || e != api.ErrLong {
		t.Error(b, e)
	}
	phase(t, s, 1, api.Reads)
	if b, e := s.Send(1, one); len(b) != 0 || e != api.ErrState {
		t.Error("broken", b, e)
	}
	steps := s.Steps()
	if b, e := s.Send(1, make([]byte, api.MaxFrame+1)); len(b) != 0 || e != api.ErrArg || s.Steps() != steps+1 {
		t.Error("too many bytes", b, e)
	}
	just := append([]byte{3, 0xe8}, make([]byte, 1000)...)
	s = made(t, 9, 1, 1)
	if b, e := s.Send(0, just); !bytes.Equal(b, []byte{0, 1, 8}) || e != api.OK {
		t.Error("just as long", b, e)
	}
	if b, e := s.Send(0, make([]byte, api.MaxFrame)); len(b) != 3*api.MaxFrame/2 || e != api.OK {
		t.Error("all empty", len(b), e)
	}
}

func TestEventsAreNew(t *testing.T) {
	s := made(t, 9, 1, 1)
	run(t, s, 0, addP(3, 0, 0))
	r := run(t, s, 0, all())
	r.Answer.IDs[0] = 99
	l := s.Events()
	if len(l) != 6 || !slices.Equal(l[4].Reply.Answer.IDs, []int{3}) {
		t.Fatal(l)
	}
	l[4].Reply.Answer.IDs[0] = 98
	if !slices.Equal(l[5].Reply.Answer.IDs, []int{3}) {
		t.Error("two lists of one answer are one")
	}
	l[0].Op = 77
	if m := s.Events(); m[0].Op != 1 || !slices.Equal(m[4].Reply.Answer.IDs, []int{3}) {
		t.Error("shared")
	}
}

func TestEventsBeyondAreNotKept(t *testing.T) {
	s := made(t, 9, 1, 1)
	b := make([]byte, api.MaxFrame)
	for range api.MaxEvents/(api.MaxFrame/2) - 1 {
		s.Send(0, b)
	}
	if n := len(s.Events()); n != api.MaxEvents-api.MaxFrame/2 {
		t.Fatal(n)
	}
	s.Send(0, b)
	s.Send(0, b[:8])
	if n := len(s.Events()); n != api.MaxEvents {
		t.Error(n)
	}
	if r := run(t, s, 0, addP(3, 0, 0)); !reply.Same(r, reply.Changed(api.OK)) || s.Catalog().Len() != 1 {
		t.Error("nothing else changes", r)
	}
}

// some is a request, now and then one that is wrong.
func some(d *dice) api.Request {
	id, x, y, w := 1+d.roll(12), d.roll(10), d.roll(10), d.roll(5)
	switch d.roll(14) {
	case 0, 1, 2:
		return addP(id, x, y)
	case 3, 4:
		return dropP(id)
	case 5, 6:
		return addS(id, x, x+w)
	case 7:
		return dropS(id)
	case 8:
		return []api.Request{{}, addS(id, 5, 2), addP(0, 0, 0), query(api.Query{Kind: 8}), query(api.Query{Kind: api.AskOverlap, X: 3, Hi: 1}), addP(1, far+1, 0)}[d.roll(6)]
	}
	return query(api.Query{Kind: 1 + d.roll(7), Box: api.Box{X1: x, X2: x + w, Y1: y, Y2: y + w}, Win: api.Win{X1: x, X2: x + w, Y: y}, X: x, Hi: x + w})
}

// does is what a request tells that is done at once.
func does(k *table.Table, r api.Request) api.Reply {
	if r.Kind == api.WantChange {
		_, e := k.Do(r.Change)
		return reply.Changed(e)
	}
	return reply.Told(r.Query, plan.Plain(r.Query, k.Points(), k.Spans()), plan.Check(r.Query))
}

// explained looks whether the operations that Took, in that order, tell just what was replied.
func explained(t *testing.T, s *server.Server, most int) {
	t.Helper()
	k, _ := table.New(most)
	at := map[int][6]int{}
	for i, e := range s.Events() {
		places := at[e.Op]
		if e.Op != 0 && places[e.Kind] != 0 {
			t.Fatal("twice", e)
		}
		places[e.Kind] = i + 1
		at[e.Op] = places
		if e.Kind == api.Took {
			if w := does(k, e.Request); !reply.Same(w, e.Reply) {
				t.Fatal("Took", e, w)
			}
			if places[api.Invoked] == 0 || places[api.Replied] != 0 {
				t.Fatal("Took lies between", e)
			}
		}
		if e.Kind == api.Replied && places[api.Took] == 0 {
			t.Fatal("Replied ahead of Took", e)
		}
	}
	if _, writing := s.Catalog().Writing(); !writing {
		if !slices.Equal(k.Points(), s.Catalog().Points()) || !slices.Equal(k.Spans(), s.Catalog().Spans()) {
			t.Fatal("not what the catalogue has")
		}
	}
}

func TestWhateverIsPicked(t *testing.T) {
	for seed := range uint32(40) {
		d := &dice{seed*77 + 1}
		n, most := 1+d.roll(6), 4+d.roll(20)
		s := made(t, most, n, d.roll(4))
		last := 0
		for range 1200 {
			id := d.roll(n)
			switch k := d.roll(40); {
			case k < 6:
				s.Want(id, some(d))
			case k == 6:
				s.Clean()
			case k == 7 && d.roll(12) == 0:
				s.Abort(id)
			default:
				p := s.Phase(id)
				r, ok, e := s.Step(id)
				if (e == api.ErrState) != (p == api.Idle || p == api.Gone) || ok && s.Phase(id) != api.Idle {
					t.Fatal(p, r, ok, e)
				}
				if l := s.Events(); ok && (len(l) == 0 || l[len(l)-1].Kind != api.Replied || !reply.Same(l[len(l)-1].Reply, r) || r.Code == api.ErrBusy) {
					t.Fatal("what Step tells", r, l)
				}
			}
			if _, writing := s.Catalog().Writing(); !writing && d.roll(10) == 0 && !s.Catalog().Agree() {
				t.Fatal("all agree")
			}
			if s.Steps() != last+1 {
				t.Fatal("Steps", s.Steps(), last)
			}
			last = s.Steps()
		}
		explained(t, s, most)
		for s.Clean() {
		}
		if _, writing := s.Catalog().Writing(); !writing && !s.Catalog().Agree() {
			t.Fatal("all agree")
		}
		explained(t, s, most)
	}
}

func TestAlone(t *testing.T) {
	d := &dice{5}
	s := made(t, 12, 3, 2)
	k, _ := table.New(12)
	for range 800 {
		r, id := some(d), d.roll(3)
		if !codec.Good(r) {
			if s.Want(id, r) != api.ErrForm {
				t.Fatal(r)
			}
			continue
		}
		got := run(t, s, id, r)
		w := does(k, r)
		a, e := reply.Encode(got)
		b, f := reply.Encode(w)
		if e != api.OK || f != api.OK || !bytes.Equal(a, b) || got.Code == api.ErrBusy {
			t.Fatal(r, got, w)
		}
	}
}

func TestNil(t *testing.T) {
	var s *server.Server
	r, ok, e := s.Step(0)
	b, f := s.Send(0, nil)
	n, there := s.Ahead(0)
	if s.Want(0, addP(1, 0, 0)) != api.ErrArg || len(b) != 0 || f != api.ErrArg || !reply.Same(r, api.Reply{}) || ok || e != api.ErrArg || s.Abort(0) != api.ErrArg || s.Clean() || s.Phase(0) != api.Gone || len(s.Events()) != 0 || s.Steps() != 0 || n != 0 || there || s.Catalog() != nil {
		t.Error("nil")
	}
}
