package play_test

import (
	"bytes"
	"slices"
	"strings"
	"testing"

	"alidade/api"
	"alidade/codec"
	"alidade/frame"
	"alidade/history"
	"alidade/linear"
	"alidade/plan"
	"alidade/play"
	"alidade/reply"
	"alidade/script"
	"alidade/server"
	"alidade/table"
)

const far = api.MaxCoord

type dice struct{ n uint32 }

func (d *dice) roll(most int) int {
	d.n = d.n*1664525 + 1013904223
	return int(d.n>>12) % most
}

func setup(most, sessions, budget int) api.Setup {
	return api.Setup{Most: most, Sessions: sessions, Budget: budget}
}

func made(t *testing.T, c api.Setup) *play.Play {
	t.Helper()
	p, e := play.New(c)
	if p == nil || e != api.OK || p.Server() == nil {
		t.Fatal(c, e)
	}
	return p
}

func act(t *testing.T, s string) api.Act {
	t.Helper()
	a, e := script.Parse(s)
	if e != api.OK {
		t.Fatal(s, e)
	}
	return a
}

func acts(t *testing.T, lines ...string) []api.Act {
	t.Helper()
	var l []api.Act
	for _, s := range lines {
		l = append(l, act(t, s))
	}
	return l
}

func wrong() []api.Setup {
	return []api.Setup{{}, setup(0, 1, 1), setup(1, 0, 1), setup(1, api.MaxSessions+1, 1), setup(1, 1, -1), setup(1, 1, api.MaxTries+1), setup(api.MaxPool+1, 1, 1)}
}

func TestNew(t *testing.T) {
	for _, c := range wrong() {
		if p, e := play.New(c); p != nil || e != api.ErrArg {
			t.Error(c, e)
		}
		if got, e := play.Run(c, act(t, "step 0 1")); got != (api.Played{}) || e != api.ErrArg {
			t.Error(c, e)
		}
		if s, n, e := play.Text(c, "x"); s != "" || n != 0 || e != api.ErrArg {
			t.Error(c, n, e)
		}
	}
	p := made(t, setup(5, 2, 1))
	if p.Told() != (api.Played{Agree: true, Right: true}) || len(p.Replies(0)) != 0 || len(p.Sent(1)) != 0 {
		t.Error(p.Told())
	}
}

func TestExample(t *testing.T) {
	got, e := play.Run(setup(5, 1, 1), acts(t, "want 0 add-point 1 2 3", "step 0 9")...)
	if got != (api.Played{Steps: 7, Deeds: 1, Replies: 1, Version: 1, Len: 1, Agree: true, Right: true}) || e != api.OK {
		t.Error(got, e)
	}
	if got, e := play.Run(setup(5, 1, 1)); got != (api.Played{Agree: true, Right: true}) || e != api.OK {
		t.Error(got, e)
	}
}

func TestDo(t *testing.T) {
	p := made(t, setup(2, 2, 1))
	for i, c := range []struct {
		s     string
		e     api.Errno
		steps int
	}{
		{"step 0 5", api.ErrState, 1}, {"step 2 5", api.ErrArg, 0}, {"want 2 stab 1", api.ErrArg, 0}, {"abort -1", api.ErrArg, 0}, {"send 9 0000", api.ErrArg, 0}, {"clean 7", api.OK, 1},
		{"want 0 add-point 1 2 3", api.OK, 1}, {"want 0 stab 1", api.ErrBusy, 1}, {"step 0 3", api.OK, 3}, {"step 0 10000", api.OK, 3}, {"step 0 1", api.ErrState, 1},
		{"want 0 drop-point 1", api.OK, 1}, {"step 0 4", api.OK, 4}, {"want 1 stab 7", api.OK, 1}, {"step 1 2", api.OK, 2}, {"abort 0", api.OK, 1}, {"abort 0", api.ErrState, 1}, {"want 0 stab 1", api.ErrState, 1}, {"send 0 00", api.ErrState, 1}, {"step 0 3", api.ErrState, 1},
		{"clean 1", api.OK, 1}, {"clean 9", api.OK, 2}, {"clean 9", api.OK, 1}, {"send 1 000163", api.OK, 1}, {"send 1 ffff", api.ErrLong, 1}, {"send 1 00", api.ErrState, 1},
	} {
		was := p.Server().Steps()
		if e := p.Do(act(t, c.s)); e != c.e || p.Server().Steps() != was+c.steps {
			t.Error(i, c.s, e, p.Server().Steps()-was)
		}
	}
	for _, a := range []api.Act{{}, {Kind: 6}, {Kind: api.ActWant}, {Kind: api.ActStep, N: 0}, {Kind: api.ActStep, N: 10001}, {Kind: api.ActClean}, {Kind: api.ActSend, Bytes: make([]byte, 1001)}} {
		was := p.Server().Steps()
		if e := p.Do(a); e != api.ErrForm || p.Server().Steps() != was {
			t.Error(a, e)
		}
	}
}

func TestRepliesAndSent(t *testing.T) {
	p := made(t, setup(9, 2, 1))
	for _, a := range acts(t, "want 0 add-point 4 2 3", "step 0 99", "want 0 box 0 9 0 9", "want 0 stab 1", "step 0 99", "send 1 0000000163", "send 1 000115000115", "send 1 0002151000021510", "step 1 2", "want 0 add-point 4 4 4", "step 0 99") {
		p.Do(a)
	}
	w := []api.Reply{{}, {Asked: true, Listed: true, Answer: api.Answer{N: 1, IDs: []int{4}}}, {Code: api.ErrDup}}
	for range 2 {
		l := p.Replies(0)
		if !slices.EqualFunc(l, w, reply.Same) {
			t.Fatal(l)
		}
		l[1].Answer.IDs[0], l[0].Code = 99, 3
		b := p.Sent(1)
		if !bytes.Equal(b, []byte{0, 1, 8, 0, 1, 8, 0, 1, 8, 0, 1, 8, 0, 1, 7}) {
			t.Fatal(b)
		}
		b[0] = 9
	}
	if len(p.Sent(0)) != 0 || len(p.Replies(1)) != 1 {
		t.Error("others", p.Sent(0), p.Replies(1))
	}
	for _, id := range []int{-1, 2, 1 << 62} {
		if len(p.Replies(id)) != 0 || len(p.Sent(id)) != 0 {
			t.Error(id)
		}
	}
	if got := p.Told(); got.Deeds != 6 || got.Replies != 4 || got.Refused != 2 || !got.Right || !got.Agree {
		t.Error(got)
	}
}

func TestTold(t *testing.T) {
	p := made(t, setup(9, 2, 1))
	for _, c := range []struct {
		s string
		w api.Played
	}{
		{"want 0 add-span 1 2 3", api.Played{Steps: 1, Deeds: 1, Agree: true, Right: true}},
		{"step 0 3", api.Played{Steps: 4, Deeds: 1, Right: true}},
		{"abort 0", api.Played{Steps: 5, Deeds: 1, Right: true}},
		{"clean 3", api.Played{Steps: 7, Deeds: 1, Agree: true, Right: true}},
		{"want 1 add-span 1 2 3", api.Played{Steps: 8, Deeds: 2, Agree: true, Right: true}},
		{"want 1 add-span 1 2 3", api.Played{Steps: 9, Deeds: 3, Refused: 1, Agree: true, Right: true}},
		{"send 1 000163", api.Played{Steps: 10, Deeds: 3, Refused: 1, Agree: true, Right: true}},
		{"step 1 4", api.Played{Steps: 14, Deeds: 3, Refused: 1, Right: true}},
		{"abort 1", api.Played{Steps: 15, Deeds: 3, Refused: 1, Right: true}},
		{"clean 1", api.Played{Steps: 16, Deeds: 3, Refused: 1, Version: 1, Len: 1, Agree: true, Right: true}},
	} {
		p.Do(act(t, c.s))
		if got := p.Told(); got != c.w {
			t.Error(c.s, got)
		}
	}
}

func TestRounds(t *testing.T) {
	p := made(t, setup(9, 3, 1))
	if play.Rounds(p, 5) != 0 || p.Server().Steps() != 0 {
		t.Error("all are Idle")
	}
	for _, a := range acts(t, "want 0 add-point 1 0 0", "want 1 add-point 2 0 0", "abort 2") {
		p.Do(a)
	}
	if play.Rounds(p, 0) != 0 || play.Rounds(p, -4) != 0 || p.Server().Steps() != 3 {
		t.Error("no rounds")
	}
	// The first has its turn in round 1 and is replied in round 6; the other one has it then, and is replied in round 11.
	if n := play.Rounds(p, 6); n != 6 || p.Server().Steps() != 3+18 || p.Server().Phase(0) != api.Idle || p.Server().Phase(1) != api.Holds {
		t.Error(n, p.Server().Steps(), p.Server().Phase(1))
	}
	if n := play.Rounds(p, 1000); n != 5 || p.Server().Steps() != 3+33 || p.Server().Phase(1) != api.Idle {
		t.Error(n, p.Server().Steps())
	}
	if len(p.Replies(0)) != 1 || len(p.Replies(1)) != 1 || p.Told().Replies != 2 || !p.Told().Right {
		t.Error("replies")
	}
}

func TestText(t *testing.T) {
	s, n, e := play.Text(setup(5, 1, 1), "want 0 add-point 1 2 3\nstep 0 9\nwant 0 stab 4\nwant 0 stab 5\nabort 0\n")
	w := "1 s0 invoked #1\n7 s0 took #1 code 0\n7 s0 replied #1 code 0\n8 s0 invoked #2\n9 s0 refused #3 code 7\n10 s0 aborted #2\n"
	if s != w || n != 0 || e != api.OK {
		t.Error(s, n, e)
	}
	if s, n, e := play.Text(setup(5, 1, 1), ""); s != "" || n != 0 || e != api.OK {
		t.Error(s, n, e)
	}
	if s, n, e := play.Text(setup(5, 1, 1), "step 0 1\nstep 0 0\n"); s != "" || n != 2 || e != api.ErrForm {
		t.Error(s, n, e)
	}
	if s, n, e := play.Text(setup(5, 1, 1), strings.Repeat("\n", api.MaxActs+1)); s != "" || n != 0 || e != api.ErrLong {
		t.Error(s, n, e)
	}
}

// some is a request.
func some(d *dice) api.Request {
	id, x, y, w := 1+d.roll(9), d.roll(9), d.roll(9), d.roll(5)
	if k := d.roll(10); k < 6 {
		return api.Request{Kind: api.WantChange, Change: api.Change{Kind: 1 + k%4, Point: api.Point{ID: id, X: x, Y: y}, Span: api.Span{ID: id, Lo: x, Hi: x + w - 1}}}
	}
	return api.Request{Kind: api.WantQuery, Query: api.Query{Kind: 1 + d.roll(7), Box: api.Box{X1: x, X2: x + w - 1, Y1: y, Y2: y + w}, Win: api.Win{X1: x, X2: x + w, Y: y}, X: x, Hi: x + w - 1}}
}

// random is a script: sessions want, send, step, and are aborted now and then.
func random(d *dice, sessions, n int) []api.Act {
	var l []api.Act
	for range n {
		id := d.roll(sessions)
		switch k := d.roll(30); {
		case k < 5:
			l = append(l, api.Act{Kind: api.ActWant, ID: id, Request: some(d)})
		case k < 8:
			b, _ := codec.Encode(some(d))
			if d.roll(4) == 0 {
				b = append(b, 7)
			}
			b, _ = frame.Wrap(b)
			l = append(l, api.Act{Kind: api.ActSend, ID: id, Bytes: b})
		case k == 8 && d.roll(9) == 0:
			l = append(l, api.Act{Kind: api.ActAbort, ID: id})
		case k == 9:
			l = append(l, api.Act{Kind: api.ActClean, N: 1 + d.roll(3)})
		default:
			l = append(l, api.Act{Kind: api.ActStep, ID: id, N: 1 + d.roll(4)})
		}
	}
	return l
}

func TestWhateverIsPlayed(t *testing.T) {
	for seed := range uint32(60) {
		d := &dice{seed*31 + 7}
		c := setup(3+d.roll(12), 1+d.roll(6), d.roll(4))
		p := made(t, c)
		for _, a := range random(d, c.Sessions, 300) {
			p.Do(a)
		}
		if got := p.Told(); !got.Right {
			t.Fatal(history.Text(p.Server().Events()))
		}
		play.Rounds(p, 1<<30)
		for id := range c.Sessions {
			if f := p.Server().Phase(id); f != api.Idle && f != api.Gone {
				t.Fatal("not replied", id, f)
			}
		}
		p.Do(api.Act{Kind: api.ActClean, N: 9})
		got := p.Told()
		if !got.Right || !got.Agree || got.Len != p.Server().Catalog().Len() || got.Steps != p.Server().Steps() {
			t.Fatal(got)
		}
	}
}

// P1: what was replied is explained by an order that keeps to which was replied ahead of which was invoked.
func TestExplained(t *testing.T) {
	for seed := range uint32(150) {
		d := &dice{seed*17 + 3}
		c := setup(3, 3, d.roll(3))
		p := made(t, c)
		for _, a := range random(d, 3, 60) {
			p.Do(a)
		}
		l, well := history.Deeds(p.Server().Events())
		if !well {
			t.Fatal("not well")
		}
		order := linear.Witness(l)
		if !linear.Fits(l, 3, order...) {
			t.Fatal("no witness", order)
		}
		for i, a := range order {
			for _, b := range order[i+1:] {
				if history.Before(l[b], l[a]) {
					t.Fatal("not in that order", a, b)
				}
			}
		}
		if order, e := linear.Search(l, 3); e == api.ErrNone || e == api.OK && !linear.Fits(l, 3, order...) {
			t.Fatal("Search", order, e)
		}
	}
}

// P2: operations that are run one after the other are replied what points and intervals tell, byte for byte.
func TestAlone(t *testing.T) {
	d := &dice{11}
	c := setup(12, 4, 2)
	p := made(t, c)
	k, _ := table.New(12)
	for range 500 {
		id, r := d.roll(4), some(d)
		if e := p.Do(api.Act{Kind: api.ActWant, ID: id, Request: r}); e != api.OK {
			t.Fatal(r, e)
		}
		for p.Server().Phase(id) != api.Idle {
			p.Do(api.Act{Kind: api.ActStep, ID: id, N: 50})
		}
		l := p.Replies(id)
		var w api.Reply
		if r.Kind == api.WantChange {
			_, e := k.Do(r.Change)
			w = reply.Changed(e)
		} else {
			w = reply.Told(r.Query, plan.Plain(r.Query, k.Points(), k.Spans()), plan.Check(r.Query))
		}
		a, _ := reply.Encode(l[len(l)-1])
		b, _ := reply.Encode(w)
		if !bytes.Equal(a, b) || len(a) == 0 {
			t.Fatal(r, a, b)
		}
	}
}

// P3: whatever bytes are sent are an operation, whose own bytes they are, or are told to be none.
func TestBytes(t *testing.T) {
	d := &dice{23}
	s, _ := server.New(setup(50, 1, 0))
	ops := 0
	for range 3000 {
		b := make([]byte, d.roll(7))
		for i := range b {
			if b[i] = byte(d.roll(256)); i == 0 {
				b[i] %= 26
			} else if d.roll(3) > 0 {
				b[i] &= 0x3f
			}
		}
		f, _ := frame.Wrap(b)
		from := len(s.Events())
		told, e := s.Send(0, f)
		l := s.Events()[from:]
		if e != api.OK || len(l) != 1 {
			t.Fatal(b, e, l)
		}
		if l[0].Kind == api.Refused {
			if l[0].Op != 0 || !bytes.Equal(told, []byte{0, 1, 8}) || s.Phase(0) != api.Idle {
				t.Fatal(b, told, l)
			}
			continue
		}
		ops++
		back, _ := codec.Encode(l[0].Request)
		if !bytes.Equal(back, b) || len(told) != 0 {
			t.Fatal(b, back)
		}
		for s.Phase(0) != api.Idle {
			s.Step(0)
		}
	}
	if ops < 100 || !s.Catalog().Agree() {
		t.Error("too few were operations", ops)
	}
}

// P5: a change is done whole, or leaves nothing, ahead of the next one.
func TestWhole(t *testing.T) {
	for seed := range uint32(40) {
		d := &dice{seed*5 + 2}
		p := made(t, setup(8, 8, 1))
		done := 0
		for id := range 8 {
			r := some(d)
			r.Kind, r.Change.Kind = api.WantChange, 1+d.roll(4)
			p.Do(api.Act{Kind: api.ActWant, ID: id, Request: r})
			was := p.Server().Catalog().Len()
			p.Do(api.Act{Kind: api.ActStep, ID: id, N: 1 + d.roll(8)})
			p.Do(api.Act{Kind: api.ActAbort, ID: id})
			p.Do(api.Act{Kind: api.ActClean, N: 9})
			all := p.Server().Catalog()
			if n := all.Version() - done; !all.Agree() || n < 0 || n > 1 || n == 0 && all.Len() != was || n == 1 && all.Len() == was {
				t.Fatal("half done", r, all.Version(), done, all.Len(), was)
			}
			done = all.Version()
		}
		if !p.Told().Right {
			t.Fatal("not right")
		}
	}
}

// P7: scripts come back from their texts, and leave what their acts leave.
func TestScriptsComeBack(t *testing.T) {
	for seed := range uint32(20) {
		d := &dice{seed*13 + 1}
		c := setup(9, 3, 2)
		l := random(d, 3, 200)
		s, _, e := script.Print(l)
		if e != api.OK {
			t.Fatal(e)
		}
		back, _, e := script.Read(s)
		if e != api.OK || !slices.EqualFunc(back, l, script.Same) {
			t.Fatal(e)
		}
		a, _ := play.Run(c, l...)
		b, _ := play.Run(c, back...)
		if a != b || !a.Right {
			t.Fatal(a, b)
		}
		p := made(t, c)
		for _, x := range l {
			p.Do(x)
		}
		text, n, e := play.Text(c, s)
		if text != history.Text(p.Server().Events()) || n != 0 || e != api.OK || p.Told() != a {
			t.Fatal(text, n, e)
		}
	}
}

func TestNil(t *testing.T) {
	var p *play.Play
	if p.Do(api.Act{}) != api.ErrArg || p.Do(api.Act{Kind: api.ActClean, N: 1}) != api.ErrArg || len(p.Replies(0)) != 0 || len(p.Sent(0)) != 0 || p.Server() != nil || p.Told() != (api.Played{}) || play.Rounds(p, 5) != 0 {
		t.Error("nil")
	}
}
