package session_test

import (
	"slices"
	"testing"

	"alidade/api"
	"alidade/codec"
	"alidade/session"
)

var change = api.Request{Kind: api.WantChange, Change: api.Change{Kind: api.AddPoint, Point: api.Point{ID: 1, X: 2, Y: 3}, Span: api.Span{ID: 9}}, Query: api.Query{X: 4}}

var query = api.Request{Kind: api.WantQuery, Query: api.Query{Kind: api.AskStab, X: 4, Hi: 7}, Change: api.Change{Kind: 3}}

func made(t *testing.T, budget int) *session.Session {
	t.Helper()
	s, e := session.New(budget)
	if s == nil || e != api.OK || s.Phase() != api.Idle || s.Budget() != budget || s.Tries() != 0 {
		t.Fatal(budget, e)
	}
	return s
}

// in is a session that is in that phase, and what it is about.
func in(t *testing.T, p api.Phase) (*session.Session, api.Request) {
	t.Helper()
	s := made(t, 2)
	switch p {
	case api.Idle:
		return s, api.Request{}
	case api.Reads:
		s.Start(query)
		return s, codec.Only(query)
	case api.Waits:
		s.Start(change)
		return s, codec.Only(change)
	case api.Holds:
		s.Start(change)
		s.Grant()
		return s, codec.Only(change)
	}
	s.Abort()
	return s, api.Request{}
}

var phases = []api.Phase{api.Idle, api.Reads, api.Waits, api.Holds, api.Gone}

func TestNew(t *testing.T) {
	for _, budget := range []int{-1, api.MaxTries + 1, 1 << 62} {
		if s, e := session.New(budget); s != nil || e != api.ErrArg {
			t.Error(budget, e)
		}
	}
	made(t, 0)
	made(t, api.MaxTries)
}

func TestStart(t *testing.T) {
	for _, p := range phases {
		for _, r := range []api.Request{change, query, {}, {Kind: api.WantChange}, {Kind: api.WantQuery, Query: api.Query{Kind: 8}}} {
			s, about := in(t, p)
			e := api.OK
			switch {
			case p == api.Gone:
				e = api.ErrState
			case !codec.Good(r):
				e = api.ErrForm
			case p != api.Idle:
				e = api.ErrBusy
			}
			f := s.Start(r)
			if f != e {
				t.Error(p, r, f)
			}
			w := p
			if e == api.OK {
				about, w = codec.Only(r), api.Waits
				if r.Kind == api.WantQuery {
					w = api.Reads
				}
			}
			got, ok := s.Request()
			if s.Phase() != w || got != about || ok != (w != api.Idle && w != api.Gone) {
				t.Error(p, r, s.Phase(), got, ok)
			}
		}
	}
	s := made(t, 0)
	if s.Start(query) != api.OK || s.Phase() != api.Waits {
		t.Error("no budget")
	}
}

func TestMovesOfEach(t *testing.T) {
	for _, p := range phases {
		s, about := in(t, p)
		e := s.Fail()
		if (e == api.OK) != (p == api.Reads) || e != api.OK && e != api.ErrState || s.Phase() != p || p == api.Reads && s.Tries() != 1 || p != api.Reads && s.Tries() != 0 {
			t.Error("Fail", p, e, s.Tries())
		}
		s, about = in(t, p)
		e = s.Grant()
		if (e == api.OK) != (p == api.Waits) || e != api.OK && (e != api.ErrState || s.Phase() != p) || e == api.OK && s.Phase() != api.Holds {
			t.Error("Grant", p, e)
		}
		s, about = in(t, p)
		r, e := s.Finish()
		if p == api.Reads || p == api.Holds {
			if r != about || e != api.OK || s.Phase() != api.Idle {
				t.Error("Finish", p, r, e)
			}
		} else if r != (api.Request{}) || e != api.ErrState || s.Phase() != p {
			t.Error("Finish", p, r, e)
		}
		s, about = in(t, p)
		r, was := s.Abort()
		w := p
		if p == api.Gone {
			w = api.Idle
		}
		if r != about || was != w || s.Phase() != api.Gone {
			t.Error("Abort", p, r, was)
		}
		if got, ok := s.Request(); got != (api.Request{}) || ok {
			t.Error("nothing", got)
		}
	}
}

func TestBudget(t *testing.T) {
	s := made(t, 1)
	s.Start(query)
	if s.Fail() != api.OK || s.Phase() != api.Waits || s.Tries() != 1 || s.Fail() != api.ErrState {
		t.Error("one try")
	}
	s = made(t, 3)
	for range 2 {
		s.Start(query)
		for i := range 3 {
			if s.Phase() != api.Reads || s.Tries() != i || s.Fail() != api.OK {
				t.Error(i, s.Phase())
			}
		}
		if s.Phase() != api.Waits || s.Tries() != 3 || s.Budget() != 3 {
			t.Error("three tries")
		}
		s.Grant()
		if r, e := s.Finish(); r != codec.Only(query) || e != api.OK {
			t.Error(r, e)
		}
	}
	s.Start(query)
	if s.Tries() != 0 {
		t.Error("Tries begin anew")
	}
}

func TestMoves(t *testing.T) {
	for p, w := range map[api.Phase][]api.Phase{api.Idle: {api.Reads, api.Waits, api.Gone}, api.Reads: {api.Idle, api.Reads, api.Waits, api.Gone}, api.Waits: {api.Holds, api.Gone}, api.Holds: {api.Idle, api.Gone}, api.Gone: nil, 5: nil, -1: nil} {
		l := session.Moves(p)
		if !slices.Equal(l, w) {
			t.Error(p, l)
		}
		if len(l) > 0 {
			if l[0] = 9; !slices.Equal(session.Moves(p), w) {
				t.Error("shared")
			}
		}
	}
}

func TestWhateverIsCalled(t *testing.T) {
	seed := uint32(3)
	for budget := range 4 {
		s := made(t, budget)
		for range 3000 {
			seed = seed*1664525 + 1013904223
			was := s.Phase()
			switch k := seed >> 16 % 40; {
			case k < 8:
				s.Start(change)
			case k < 16:
				s.Start(query)
			case k < 24:
				s.Fail()
			case k < 32:
				s.Grant()
			case k < 39:
				s.Finish()
			case seed>>8&7 == 0:
				s.Abort()
			}
			if p := s.Phase(); p != was && !slices.Contains(session.Moves(was), p) {
				t.Fatal(was, p)
			}
			if s.Phase() == api.Gone {
				s = made(t, budget)
			}
		}
	}
}

func TestNil(t *testing.T) {
	var s *session.Session
	r, e := s.Finish()
	a, p := s.Abort()
	q, ok := s.Request()
	if s.Start(change) != api.ErrArg || s.Fail() != api.ErrArg || s.Grant() != api.ErrArg || r != (api.Request{}) || e != api.ErrArg || a != (api.Request{}) || p != api.Idle || q != (api.Request{}) || ok || s.Phase() != api.Gone || s.Tries() != 0 || s.Budget() != 0 {
		t.Error("nil")
	}
}
