package linear_test

import (
	"slices"
	"testing"

	"alidade/api"
	"alidade/codec"
	"alidade/history"
	"alidade/linear"
	"alidade/reply"
	"alidade/server"
	"alidade/table"
)

const far = api.MaxCoord

type dice struct{ n uint32 }

func (d *dice) roll(most int) int {
	d.n = d.n*1664525 + 1013904223
	return int(d.n>>12) % most
}

func addP(id, x, y int) api.Request {
	return api.Request{Kind: api.WantChange, Change: api.Change{Kind: api.AddPoint, Point: api.Point{ID: id, X: x, Y: y}}}
}

func dropP(id int) api.Request {
	return api.Request{Kind: api.WantChange, Change: api.Change{Kind: api.DropPoint, Point: api.Point{ID: id}}}
}

func all() api.Request {
	return api.Request{Kind: api.WantQuery, Query: api.Query{Kind: api.AskBox, Box: api.Box{X1: -far, X2: far, Y1: -far, Y2: far}}}
}

func list(ids ...int) api.Reply {
	return api.Reply{Asked: true, Listed: true, Answer: api.Answer{N: len(ids), IDs: ids}}
}

var ok = api.Reply{}

// done is an operation that was invoked and replied; open is one that was invoked alone.
func done(in, out int, r api.Request, w api.Reply) api.Deed {
	return api.Deed{Invoked: in, Took: out - 1, Replied: out, Aborted: -1, Refused: -1, Request: r, Reply: w}
}

func open(in int, r api.Request) api.Deed {
	return api.Deed{Invoked: in, Took: -1, Replied: -1, Aborted: -1, Refused: -1, Request: r}
}

func TestMustAndCan(t *testing.T) {
	bad := api.Request{Kind: api.WantChange, Change: api.Change{Kind: 9}}
	v := []int{-1, 0, 3}
	for _, r := range []api.Request{addP(1, 0, 0), dropP(1), all(), {}, bad} {
		for _, in := range v {
			for _, replied := range v {
				for _, refused := range v {
					for _, aborted := range v {
						d := api.Deed{Invoked: in, Took: aborted, Replied: replied, Aborted: aborted, Refused: refused, Request: r}
						can := replied >= 0 || in >= 0 && refused < 0 && r.Kind == api.WantChange && codec.Good(r)
						if linear.Must(d) != (replied >= 0) || linear.Can(d) != can {
							t.Error(d, linear.Must(d), linear.Can(d))
						}
					}
				}
			}
		}
	}
}

// free is what Free says, done plainly.
func free(l []api.Deed, done []int) []int {
	var f []int
	for i, d := range l {
		ahead := false
		for j, e := range l {
			if i != j && linear.Must(e) && !slices.Contains(done, j) && history.Before(e, d) {
				ahead = true
			}
		}
		if linear.Can(d) && !slices.Contains(done, i) && !ahead {
			f = append(f, i)
		}
	}
	return f
}

// fits is what Fits says, done plainly.
func fits(l []api.Deed, most int, order []int) bool {
	k, e := table.New(most)
	if e != api.OK {
		return false
	}
	for n, i := range order {
		if !slices.Contains(free(l, order[:n]), i) {
			return false
		}
		r, e := history.Does(k, l[i].Request)
		if e != api.OK || linear.Must(l[i]) && !reply.Same(r, l[i].Reply) || !linear.Must(l[i]) && r.Code != api.OK {
			return false
		}
	}
	for i, d := range l {
		if linear.Must(d) && !slices.Contains(order, i) {
			return false
		}
	}
	return true
}

// first is the first order that fits, in the order of a dictionary, of those of which no beginning fits.
func first(l []api.Deed, most int, order []int) ([]int, bool) {
	if fits(l, most, order) {
		return order, true
	}
	for i := range l {
		if slices.Contains(order, i) {
			continue
		}
		if o, ok := first(l, most, append(slices.Clone(order), i)); ok {
			return o, true
		}
	}
	return nil, false
}

// events is some operations, some of which overlap, some wrong in some way.
func deeds(d *dice, n int) []api.Deed {
	l := make([]api.Deed, n)
	for i := range l {
		r := [](api.Request){addP(1+d.roll(2), 0, 0), dropP(1 + d.roll(2)), all(), addP(1+d.roll(2), 1, 1), {}}[d.roll(21)/5]
		w := []api.Reply{ok, {Code: api.ErrDup}, {Code: api.ErrNone}, list(), list(1), list(2), list(1, 2)}[d.roll(7)]
		if r.Kind == api.WantQuery && d.roll(4) > 0 {
			w = []api.Reply{list(), list(1), list(2), list(1, 2)}[d.roll(4)]
		} else if r.Kind == api.WantChange && d.roll(3) > 0 {
			w = ok
		}
		in := d.roll(12)
		l[i] = done(in, in+1+d.roll(9), r, w)
		switch d.roll(8) {
		case 0, 1:
			l[i] = open(in, r)
		case 2:
			l[i] = api.Deed{Invoked: -1, Took: -1, Replied: -1, Aborted: -1, Refused: in, Request: r, Reply: w}
		case 3:
			l[i].Invoked, l[i].Replied = l[i].Replied, l[i].Invoked
		}
	}
	return l
}

func TestAgainstPlainOnes(t *testing.T) {
	d := &dice{5}
	found, none := 0, 0
	for range 1500 {
		l := deeds(d, d.roll(6))
		for range 6 {
			var order []int
			for range d.roll(len(l) + 2) {
				if i := d.roll(len(l)+2) - 1; !slices.Contains(order, i) || d.roll(5) == 0 {
					order = append(order, i)
				}
			}
			was := slices.Clone(order)
			if got := linear.Free(l, order...); !slices.Equal(got, free(l, order)) {
				t.Fatal("Free", l, order, got)
			}
			if linear.Fits(l, 2, order...) != fits(l, 2, order) || !slices.Equal(order, was) {
				t.Fatal("Fits", l, order)
			}
		}
		w, can := first(l, 2, nil)
		order, e := linear.Search(l, 2)
		if can != (e == api.OK) || !can && (e != api.ErrNone || len(order) != 0) || can && (!slices.Equal(order, w) || !linear.Fits(l, 2, order...)) {
			t.Fatal("Search", l, order, e, w)
		}
		if can && len(w) > 1 {
			found++
		} else if !can {
			none++
		}
	}
	if found < 50 || none < 50 {
		t.Error("too few of a kind", found, none)
	}
}

func TestOrders(t *testing.T) {
	// The add was aborted, but one that was replied saw it; a drop that nobody saw need not have happened.
	l := []api.Deed{done(0, 2, addP(1, 0, 0), ok), open(3, addP(2, 0, 0)), open(3, dropP(1)), done(4, 8, all(), list(1, 2))}
	if order, e := linear.Search(l, 9); !slices.Equal(order, []int{0, 1, 3}) || e != api.OK {
		t.Error(order, e)
	}
	if !linear.Fits(l, 9, 0, 1, 3) || !linear.Fits(l, 9, 0, 1, 3, 2) || linear.Fits(l, 9, 0, 1) || linear.Fits(l, 9, 0, 1, 3, 3) || linear.Fits(l, 9, 1, 0, 3) || linear.Fits(l, 9, 0, 3, 1) || linear.Fits(l, 9, 0, 1, 3, 4) || linear.Fits(l, 9, -1, 0, 1, 3) || linear.Fits(l, 9, 0, 1, 2, 3) {
		t.Error("Fits")
	}
	for _, most := range []int{0, -1, api.MaxPool + 1} {
		if order, e := linear.Search(l, most); len(order) != 0 || e != api.ErrArg || linear.Fits(l, most, 0, 1, 3) || linear.Fits(nil, most) {
			t.Error(most, e)
		}
	}
	if linear.Fits(l, 1, 0, 1, 3) {
		t.Error("no room")
	}
	if order, e := linear.Search(l, 1); len(order) != 0 || e != api.ErrNone {
		t.Error("no room", order, e)
	}
	// Two that overlap may stand either way; the first order is told.
	l = []api.Deed{done(0, 9, all(), list(1)), done(1, 8, addP(1, 0, 0), ok), done(2, 7, all(), list())}
	if order, e := linear.Search(l, 9); !slices.Equal(order, []int{2, 1, 0}) || e != api.OK {
		t.Error(order, e)
	}
	l = []api.Deed{done(0, 9, all(), list()), done(1, 8, all(), list()), open(2, addP(1, 0, 0))}
	if order, e := linear.Search(l, 9); !slices.Equal(order, []int{0, 1}) || e != api.OK {
		t.Error(order, e)
	}
	if order, e := linear.Search(nil, 9); len(order) != 0 || e != api.OK || !linear.Fits(nil, 9) || len(linear.Free(nil, 3)) != 0 {
		t.Error("the empty order", order, e)
	}
	if order, e := linear.Search([]api.Deed{open(0, addP(1, 0, 0))}, 9); len(order) != 0 || e != api.OK {
		t.Error("nothing must be explained", order, e)
	}
	bad := done(0, 1, api.Request{}, ok)
	if order, e := linear.Search([]api.Deed{bad}, 9); len(order) != 0 || e != api.ErrNone || linear.Fits([]api.Deed{bad}, 9, 0) {
		t.Error("one that tells nothing", order, e)
	}
}

func TestTooMany(t *testing.T) {
	var l []api.Deed
	for i := range 8 {
		l = append(l, done(0, 20, addP(i+1, 0, 0), ok))
	}
	l = append(l, open(0, all()), api.Deed{Invoked: -1, Took: -1, Replied: -1, Aborted: -1, Refused: 3, Request: addP(1, 0, 0)})
	if order, e := linear.Search(l, 9); !slices.Equal(order, []int{0, 1, 2, 3, 4, 5, 6, 7}) || e != api.OK {
		t.Error("just as many", order, e)
	}
	l = append(l, open(0, addP(1, 0, 0)))
	if order, e := linear.Search(l, 9); len(order) != 0 || e != api.ErrLong {
		t.Error(order, e)
	}
	if _, e := linear.Search(l, 0); e != api.ErrArg {
		t.Error("ErrArg comes first", e)
	}
	var hard []api.Deed
	for range 8 {
		hard = append(hard, done(0, 20, all(), list()))
	}
	hard[0] = done(0, 20, all(), list(1))
	if order, e := linear.Search(hard, 9); len(order) != 0 || e != api.ErrNone {
		t.Error(order, e)
	}
}

func TestWitness(t *testing.T) {
	l := []api.Deed{{Took: 7}, {Took: -1, Replied: 9}, {Took: 0}, {Took: 9}, {Took: 3}}
	if w := linear.Witness(l); !slices.Equal(w, []int{2, 4, 0, 3}) {
		t.Error(w)
	}
	if w := linear.Witness(nil); len(w) != 0 {
		t.Error(w)
	}
	for seed := range uint32(20) {
		d := &dice{seed + 9}
		s, _ := server.New(api.Setup{Most: 5, Sessions: 4, Budget: d.roll(3)})
		for range 400 {
			id := d.roll(4)
			switch k := d.roll(12); {
			case k < 3:
				s.Want(id, []api.Request{addP(1+d.roll(5), d.roll(3), 0), dropP(1 + d.roll(5)), all()}[d.roll(3)])
			case k == 3 && d.roll(8) == 0:
				s.Abort(id)
			case k == 4:
				s.Clean()
			default:
				s.Step(id)
			}
		}
		l, well := history.Deeds(s.Events())
		w := linear.Witness(l)
		if !well || !history.Right(s.Events(), 5) || !linear.Fits(l, 5, w...) {
			t.Fatal("what is right has its witness", w)
		}
	}
}

func TestManyOperations(t *testing.T) {
	var l []api.Deed
	var order []int
	for i := range 3000 {
		l = append(l, done(3*i, 3*i+2, addP(i+1, i, 0), ok))
		order = append(order, i)
	}
	if !linear.Fits(l, 3000, order...) || linear.Fits(l, 2999, order...) {
		t.Error("many")
	}
	slices.Reverse(order)
	if linear.Fits(l, 3000, order...) {
		t.Error("the other way round")
	}
}
