package history_test

import (
	"slices"
	"strings"
	"testing"

	"alidade/api"
	"alidade/history"
	"alidade/reply"
	"alidade/server"
	"alidade/table"
)

const far = api.MaxCoord

type dice struct{ n uint32 }

func (d *dice) roll(most int) int {
	d.n = d.n*1664525 + 1013904223
	return int(d.n>>12) % most
}

func addP(id, x, y int) api.Request {
	return api.Request{Kind: api.WantChange, Change: api.Change{Kind: api.AddPoint, Point: api.Point{ID: id, X: x, Y: y}}}
}

func dropP(id int) api.Request {
	return api.Request{Kind: api.WantChange, Change: api.Change{Kind: api.DropPoint, Point: api.Point{ID: id}}}
}

func all() api.Request {
	return api.Request{Kind: api.WantQuery, Query: api.Query{Kind: api.AskBox, Box: api.Box{X1: -far, X2: far, Y1: -far, Y2: far}}}
}

func list(ids ...int) api.Reply {
	return api.Reply{Asked: true, Listed: true, Answer: api.Answer{N: len(ids), IDs: ids}}
}

var ok, busy, form = api.Reply{}, api.Reply{Code: api.ErrBusy}, api.Reply{Code: api.ErrForm}

// ev is an event of the session 1.
func ev(kind, step, op int, r api.Request, w api.Reply) api.Event {
	return api.Event{Kind: kind, Step: step, Session: 1, Op: op, Request: r, Reply: w}
}

// plain is events that are right: an add, a query, one that is refused, one that is none, one that is aborted and completed, one that is pending.
func plain() []api.Event {
	return []api.Event{
		ev(api.Invoked, 1, 1, addP(3, 0, 0), ok),
		ev(api.Refused, 2, 2, all(), busy),
		ev(api.Refused, 2, 0, api.Request{}, form),
		ev(api.Took, 4, 1, addP(3, 0, 0), ok),
		ev(api.Replied, 4, 1, addP(3, 0, 0), ok),
		ev(api.Invoked, 5, 3, all(), ok),
		ev(api.Invoked, 6, 4, addP(7, 1, 1), ok),
		ev(api.Aborted, 7, 4, addP(7, 1, 1), ok),
		ev(api.Took, 8, 4, addP(7, 1, 1), ok),
		ev(api.Took, 9, 3, all(), list(3, 7)),
		ev(api.Replied, 9, 3, all(), list(3, 7)),
		ev(api.Invoked, 9, 5, dropP(3), ok),
		ev(api.Aborted, 9, 5, dropP(3), ok),
		ev(api.Invoked, 9, 6, dropP(7), ok),
	}
}

func deed(in, took, replied, aborted, refused int, r api.Request, w api.Reply) api.Deed {
	return api.Deed{Invoked: in, Took: took, Replied: replied, Aborted: aborted, Refused: refused, Session: 1, Request: r, Reply: w}
}

func same(a, b api.Deed) bool {
	return a.Invoked == b.Invoked && a.Took == b.Took && a.Replied == b.Replied && a.Aborted == b.Aborted && a.Refused == b.Refused && a.Session == b.Session && a.Request == b.Request && reply.Same(a.Reply, b.Reply)
}

func TestDeeds(t *testing.T) {
	if l, well := history.Deeds(nil); len(l) != 0 || !well {
		t.Error("nothing")
	}
	l := plain()
	d, well := history.Deeds(l)
	w := []api.Deed{
		deed(0, 3, 4, -1, -1, addP(3, 0, 0), ok), deed(-1, -1, -1, -1, 1, all(), busy), deed(5, 9, 10, -1, -1, all(), list(3, 7)),
		deed(6, 8, -1, 7, -1, addP(7, 1, 1), ok), deed(11, -1, -1, 12, -1, dropP(3), ok), deed(13, -1, -1, -1, -1, dropP(7), ok),
	}
	if !well || !slices.EqualFunc(d, w, same) {
		t.Errorf("%v\nnot\n%v", d, w)
	}
	d[2].Reply.Answer.IDs[0] = 99
	if l[9].Reply.Answer.IDs[0] != 3 || l[10].Reply.Answer.IDs[0] != 3 {
		t.Error("shared")
	}
	if !history.Right(l, 9) {
		t.Error("Right")
	}
}

func TestEventsThatAreNotWell(t *testing.T) {
	for name, spoil := range map[string]func(l []api.Event) []api.Event{
		"steps fall":                       func(l []api.Event) []api.Event { l[3].Step = 1; return l },
		"a number is left out":             func(l []api.Event) []api.Event { l[13].Op = 7; return l },
		"a number below 0":                 func(l []api.Event) []api.Event { l[13].Op = -1; return l },
		"the first number is 2":            func(l []api.Event) []api.Event { return []api.Event{ev(api.Invoked, 1, 2, all(), ok)} },
		"op 0 is invoked":                  func(l []api.Event) []api.Event { l[2].Kind = api.Invoked; return l },
		"op 0 is refused with ErrBusy":     func(l []api.Event) []api.Event { l[2].Reply = busy; return l },
		"op 0 is refused with OK":          func(l []api.Event) []api.Event { l[2].Reply = ok; return l },
		"it begins with Took":              func(l []api.Event) []api.Event { l[13].Kind = api.Took; return l },
		"it begins with Replied":           func(l []api.Event) []api.Event { l[13].Kind = api.Replied; return l },
		"it begins with Aborted":           func(l []api.Event) []api.Event { l[13].Kind = api.Aborted; return l },
		"a kind that is none":              func(l []api.Event) []api.Event { l[12].Kind = 6; return l },
		"kind 0":                           func(l []api.Event) []api.Event { l[12].Kind = 0; return l },
		"it begins with a kind of none":    func(l []api.Event) []api.Event { l[13].Kind = 9; return l },
		"invoked twice":                    func(l []api.Event) []api.Event { l[12].Kind = api.Invoked; return l },
		"aborted twice":                    func(l []api.Event) []api.Event { return append(l, l[12]) },
		"replied twice":                    func(l []api.Event) []api.Event { return append(l, l[10]) },
		"took twice":                       func(l []api.Event) []api.Event { return append(l, l[9]) },
		"refused twice":                    func(l []api.Event) []api.Event { e := l[1]; e.Step = 9; return append(l, e) },
		"another session":                  func(l []api.Event) []api.Event { l[4].Session = 2; return l },
		"another request":                  func(l []api.Event) []api.Event { l[4].Request = addP(3, 0, 1); return l },
		"a request that is not good":       func(l []api.Event) []api.Event { l[13].Request = api.Request{}; return l },
		"a later request that is not good": func(l []api.Event) []api.Event { l[12].Request = api.Request{}; return l },
		"another reply":                    func(l []api.Event) []api.Event { l[10].Reply = list(3, 8); return l },
		"another code":                     func(l []api.Event) []api.Event { l[4].Reply = busy; return l },
	} {
		l := spoil(plain())
		if d, well := history.Deeds(l); len(d) != 0 || well || history.Right(l, 9) {
			t.Error(name, d)
		}
	}
	l := plain()
	for n := range len(l) + 1 {
		if _, well := history.Deeds(l[:n]); !well {
			t.Error("a beginning", n)
		}
	}
	odd := []api.Event{ev(api.Refused, 1, 1, all(), list()), ev(api.Took, 1, 1, all(), list(1)), ev(api.Replied, 1, 1, all(), list(1)), ev(api.Invoked, 1, 1, all(), ok)}
	if d, well := history.Deeds(odd); !well || !same(d[0], deed(3, 1, 2, -1, 0, all(), list(1))) || history.Right(odd, 9) {
		t.Error("well, but not right", d)
	}
}

func TestRight(t *testing.T) {
	a, q := addP(1, 0, 0), all()
	for name, c := range map[string]struct {
		l  []api.Event
		ok bool
	}{
		"nothing":                    {nil, true},
		"refused":                    {[]api.Event{ev(api.Refused, 1, 1, a, busy)}, true},
		"refused with another code":  {[]api.Event{ev(api.Refused, 1, 1, a, api.Reply{Code: api.ErrDup})}, false},
		"refused with OK":            {[]api.Event{ev(api.Refused, 1, 1, a, ok)}, false},
		"refused, then aborted":      {[]api.Event{ev(api.Refused, 1, 1, a, busy), ev(api.Aborted, 1, 1, a, ok)}, false},
		"refused, then invoked":      {[]api.Event{ev(api.Refused, 1, 1, a, busy), ev(api.Invoked, 1, 1, a, ok)}, false},
		"invoked, then refused":      {[]api.Event{ev(api.Invoked, 1, 1, a, ok), ev(api.Refused, 1, 1, a, busy)}, false},
		"refused, then took":         {[]api.Event{ev(api.Refused, 1, 1, a, busy), ev(api.Took, 1, 1, a, ok)}, false},
		"replied alone":              {[]api.Event{ev(api.Invoked, 1, 1, a, ok), ev(api.Replied, 1, 1, a, ok)}, false},
		"replied ahead of took":      {[]api.Event{ev(api.Invoked, 1, 1, a, ok), ev(api.Replied, 1, 1, a, ok), ev(api.Took, 1, 1, a, ok)}, false},
		"replied, then aborted":      {[]api.Event{ev(api.Invoked, 1, 1, a, ok), ev(api.Took, 1, 1, a, ok), ev(api.Replied, 1, 1, a, ok), ev(api.Aborted, 1, 1, a, ok)}, false},
		"aborted, then replied":      {[]api.Event{ev(api.Invoked, 1, 1, a, ok), ev(api.Aborted, 1, 1, a, ok), ev(api.Took, 1, 1, a, ok), ev(api.Replied, 1, 1, a, ok)}, false},
		"took alone":                 {[]api.Event{ev(api.Invoked, 1, 1, a, ok), ev(api.Took, 1, 1, a, ok)}, false},
		"took, then aborted":         {[]api.Event{ev(api.Invoked, 1, 1, a, ok), ev(api.Took, 1, 1, a, ok), ev(api.Aborted, 1, 1, a, ok)}, false},
		"aborted, then took":         {[]api.Event{ev(api.Invoked, 1, 1, a, ok), ev(api.Aborted, 1, 1, a, ok), ev(api.Took, 1, 1, a, ok)}, true},
		"a query that took so":       {[]api.Event{ev(api.Invoked, 1, 1, q, ok), ev(api.Aborted, 1, 1, q, ok), ev(api.Took, 1, 1, q, list())}, false},
		"a change that was none":     {[]api.Event{ev(api.Invoked, 1, 1, dropP(4), ok), ev(api.Aborted, 1, 1, dropP(4), ok), ev(api.Took, 1, 1, dropP(4), api.Reply{Code: api.ErrNone})}, false},
		"replied with what is wrong": {[]api.Event{ev(api.Invoked, 1, 1, q, ok), ev(api.Took, 1, 1, q, list(1)), ev(api.Replied, 1, 1, q, list(1))}, false},
		"a drop of what is not":      {[]api.Event{ev(api.Invoked, 1, 1, dropP(4), ok), ev(api.Took, 1, 1, dropP(4), api.Reply{Code: api.ErrNone}), ev(api.Replied, 1, 1, dropP(4), api.Reply{Code: api.ErrNone})}, true},
		"pending":                    {[]api.Event{ev(api.Invoked, 1, 1, a, ok)}, true},
	} {
		if history.Right(c.l, 9) != c.ok {
			t.Error(name)
		}
	}
	if history.Right(plain(), 0) || history.Right(plain(), 1) || history.Right(nil, 0) || !history.Right(plain(), 2) {
		t.Error("how many entries there may be")
	}
}

func TestDoes(t *testing.T) {
	k, _ := table.New(2)
	for _, c := range []struct {
		r api.Request
		w api.Reply
	}{
		{addP(3, 0, 0), ok}, {addP(3, 1, 1), api.Reply{Code: api.ErrDup}}, {addP(1, far+1, 0), api.Reply{Code: api.ErrRange}}, {all(), list(3)}, {addP(1, 5, 5), ok}, {addP(2, 0, 0), api.Reply{Code: api.ErrFull}}, {all(), list(1, 3)}, {dropP(3), ok}, {dropP(3), api.Reply{Code: api.ErrNone}},
		{api.Request{Kind: api.WantQuery, Query: api.Query{Kind: api.AskCount, Box: all().Query.Box}}, api.Reply{Asked: true, Answer: api.Answer{N: 1}}},
		{api.Request{Kind: api.WantQuery, Query: api.Query{Kind: api.AskOverlap, X: 2, Hi: 1}}, api.Reply{Code: api.ErrOrder}},
		{api.Request{Kind: api.WantQuery, Query: api.Query{Kind: api.AskStab, X: 2, Hi: 1}}, list()},
	} {
		if r, e := history.Does(k, c.r); e != api.OK || !reply.Same(r, c.w) {
			t.Error(c.r, r, e)
		}
	}
	if r, e := history.Does(nil, api.Request{}); e != api.ErrArg || !reply.Same(r, ok) {
		t.Error("no table", e)
	}
	for _, r := range []api.Request{{}, {Kind: api.WantQuery, Query: api.Query{Kind: 8}}, {Kind: api.WantChange}} {
		if w, e := history.Does(k, r); e != api.ErrForm || !reply.Same(w, ok) || k.Len() != 1 {
			t.Error(r, e)
		}
	}
}

func TestReplay(t *testing.T) {
	k, right := history.Replay(plain(), 9)
	if !right || !slices.Equal(k.Points(), []api.Point{{ID: 3}, {ID: 7, X: 1, Y: 1}}) || k.Most() != 9 {
		t.Error(k.Points(), right)
	}
	for _, most := range []int{0, -1, api.MaxPool + 1} {
		if k, right := history.Replay(plain(), most); k != nil || right {
			t.Error(most)
		}
	}
	l := plain()
	l[9].Reply = list(3)
	if k, right := history.Replay(l, 9); right || k == nil || k.Len() != 2 {
		t.Error("the table as far", right)
	}
	l = plain()
	l[3].Request = api.Request{}
	if k, right := history.Replay(l, 9); right || k == nil || k.Len() != 0 {
		t.Error("no request", right)
	}
	odd := []api.Event{ev(api.Took, 9, 5, addP(2, 0, 0), ok), ev(api.Replied, 3, 7, addP(3, 0, 0), ok), ev(api.Took, 1, 5, dropP(2), ok)}
	if k, right := history.Replay(odd, 9); !right || k.Len() != 0 {
		t.Error("events need not be well", right)
	}
}

func TestBeforeAndPending(t *testing.T) {
	v := []int{-1, 0, 1, 2, 3}
	for _, replied := range v {
		for _, refused := range v {
			for _, in := range v {
				for _, no := range v {
					a := deed(2, 2, replied, 2, refused, all(), ok)
					b := deed(in, 2, 2, 2, no, all(), ok)
					end, begin := max(replied, refused), max(in, no)
					if history.Before(a, b) != (end >= 0 && begin >= 0 && end < begin) {
						t.Error("Before", a, b)
					}
					d := deed(in, 1, replied, no, refused, all(), ok)
					if history.Pending(d) != (in >= 0 && replied < 0 && no < 0) {
						t.Error("Pending", d)
					}
				}
			}
		}
	}
}

func TestText(t *testing.T) {
	w := `1 s1 invoked #1
2 s1 refused #2 code 7
2 s1 refused #0 code 8
4 s1 took #1 code 0
4 s1 replied #1 code 0
5 s1 invoked #3
6 s1 invoked #4
7 s1 aborted #4
8 s1 took #4 code 0
9 s1 took #3 code 0 2
9 s1 replied #3 code 0 2
9 s1 invoked #5
9 s1 aborted #5
9 s1 invoked #6
`
	if s := history.Text(plain()); s != w {
		t.Error(s)
	}
	if history.Text(nil) != "" || history.Line(api.Event{Kind: api.Invoked, Step: 3, Session: 1, Op: 7}) != "3 s1 invoked #7" {
		t.Error("Line")
	}
	far := api.Event{Kind: api.Took, Step: -3, Session: -12, Op: -7, Reply: api.Reply{Code: -5, Asked: true, Answer: api.Answer{N: -9}}}
	if s := history.Line(far); s != "-3 s-12 took #-7 code -5 -9" {
		t.Error(s)
	}
	for _, kind := range []int{0, -1, 6, 99} {
		if s := history.Line(api.Event{Kind: kind, Step: 3, Session: 1, Op: 7}); !strings.HasPrefix(s, "3 s1 ? #7") {
			t.Error(s)
		}
	}
	bare := api.Event{Kind: api.Invoked, Reply: list(1)}
	if s := history.Line(bare); s != "0 s0 invoked #0" {
		t.Error(s)
	}
}

// some is a request, now and then one that is wrong.
func some(d *dice) api.Request {
	id, x, w := 1+d.roll(6), d.roll(6), d.roll(4)
	switch d.roll(10) {
	case 0, 1, 2:
		return addP(id, x, w)
	case 3, 4:
		return dropP(id)
	case 5:
		return api.Request{}
	}
	return api.Request{Kind: api.WantQuery, Query: api.Query{Kind: 1 + d.roll(7), Box: api.Box{X1: x, X2: x + w - 1, Y1: 0, Y2: w}, Win: api.Win{X1: x, X2: x + w, Y: w}, X: x, Hi: x + w}}
}

func TestWhatAServerTells(t *testing.T) {
	for seed := range uint32(20) {
		d := &dice{seed + 3}
		s, _ := server.New(api.Setup{Most: 5, Sessions: 4, Budget: d.roll(3)})
		for range 300 {
			id := d.roll(4)
			switch k := d.roll(12); {
			case k < 3:
				s.Want(id, some(d))
			case k == 3 && d.roll(8) == 0:
				s.Abort(id)
			case k == 4:
				s.Clean()
			default:
				s.Step(id)
			}
		}
		l := s.Events()
		if !history.Right(l, 5) {
			t.Fatal(history.Text(l))
		}
		deeds, _ := history.Deeds(l)
		for _, a := range deeds {
			for _, b := range deeds {
				if a.Took >= 0 && b.Took >= 0 && history.Before(a, b) && b.Took < a.Took {
					t.Fatal("took ahead of one that was before it", a, b)
				}
			}
		}
	}
}
