package server

import (
	"alidade/api"
	"alidade/codec"
	"alidade/cursor"
	"alidade/frame"
	"alidade/plan"
	"alidade/reply"
	"alidade/session"
)

// member is a session, the bytes that come to it, and how far it is with its operation.
type member struct {
	*session.Session
	*frame.Stream
	work
}

// work is an operation: its number; of a query its cursor, and at which version, behind how many changes it was begun;
// of a change whether it is under way, and how many of its steps were done.
type work struct {
	op      int
	looks   *cursor.Cursor
	version int
	begun   int
	writes  bool
	did     int
}

// leftover is a change that is to be completed, or turned back.
type leftover struct {
	session int
	op      int
	request api.Request
	whole   bool
}

func (s *Server) want(id int, m *member, r api.Request) api.Errno {
	e := m.Start(r)
	switch e {
	case api.OK:
		m.work = work{op: s.open()}
		s.note(api.Event{Kind: api.Invoked, Session: id, Op: m.op, Request: codec.Only(r)})
		if m.Phase() == api.Waits {
			s.turns.Want(id)
		}
	case api.ErrBusy:
		s.note(api.Event{Kind: api.Refused, Session: id, Op: s.open(), Request: codec.Only(r), Reply: reply.Changed(e)})
	case api.ErrForm:
		s.note(api.Event{Kind: api.Refused, Session: id, Reply: reply.Changed(e)})
	}
	return e
}

// await lets the session have its turn, if nobody comes ahead of it.
func (s *Server) await(id int, m *member) {
	if n, waits := s.turns.Ahead(id); waits && n == 0 {
		s.turns.Grant()
		m.Grant()
	}
}

// look is one step of a query: what is told, if anything is.
func (s *Server) look(id int, m *member) (api.Reply, bool) {
	r, _ := m.Request()
	if m.looks == nil {
		if e := plan.Check(r.Query); e != api.OK {
			return reply.Told(r.Query, api.Answer{}, e), true
		}
		s.begin(id, m, r.Query)
		return api.Reply{}, false
	}
	m.looks.Step(1)
	if !s.catalog.Valid(m.version) || m.begun != s.begun {
		s.fail(id, m)
		return api.Reply{}, false
	}
	a, done := m.looks.Answer()
	if !done {
		return api.Reply{}, false
	}
	return reply.Told(r.Query, a, api.OK), true
}

// begin lets a query have a cursor, unless a change is under way.
func (s *Server) begin(id int, m *member, q api.Query) {
	if _, writing := s.catalog.Writing(); writing {
		s.fail(id, m)
		return
	}
	of, _ := plan.First(q)
	m.looks, _ = s.catalog.Look(q, of)
	m.version, m.begun = s.catalog.Version(), s.begun
}

// fail is a read that failed: who failed too often waits for its turn.
func (s *Server) fail(id int, m *member) {
	m.looks = nil
	m.Fail()
	if m.Phase() == api.Waits {
		s.turns.Want(id)
	}
}

// hold is one step of a session that has its turn: what is told, if anything is.
func (s *Server) hold(id int, m *member) (api.Reply, bool) {
	if s.clean() {
		return api.Reply{}, false
	}
	r, _ := m.Request()
	if r.Kind == api.WantQuery {
		return s.look(id, m)
	}
	if !m.writes {
		if e := s.catalog.Begin(r.Change); e != api.OK {
			return reply.Changed(e), true
		}
		m.writes = true
		s.begun++
		return api.Reply{}, false
	}
	n, done := s.catalog.Step(1)
	m.did += n
	return reply.Changed(api.OK), done
}

// tell lets the session's operation take, and be replied.
func (s *Server) tell(id int, m *member, r api.Reply) {
	about, _ := m.Finish()
	for _, kind := range [2]int{api.Took, api.Replied} {
		s.note(api.Event{Kind: kind, Session: id, Op: m.op, Request: about, Reply: r})
	}
	// Who reads has no turn to release.
	s.turns.Release(id)
	m.work = work{}
}

// clean is one step of what is to be cleaned: whether there was something.
func (s *Server) clean() bool {
	if s.left == nil {
		return false
	}
	l := *s.left
	if !l.whole {
		if _, done := s.catalog.Back(1); done {
			s.left = nil
		}
		return true
	}
	if _, done := s.catalog.Step(1); done {
		s.left = nil
		s.note(api.Event{Kind: api.Took, Session: l.session, Op: l.op, Request: l.request, Reply: reply.Changed(api.OK)})
	}
	return true
}

// length is how many steps a change has: of a point, or of an interval.
func length(c api.Change) int {
	if c.Kind == api.AddPoint || c.Kind == api.DropPoint {
		return 4
	}
	return 3
}
