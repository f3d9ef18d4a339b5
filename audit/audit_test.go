package audit_test

import (
	"math"
	"slices"
	"testing"

	"alidade/api"
	"alidade/audit"
	"alidade/catalog"
	"alidade/plan"
)

const far = api.MaxCoord

func pt(id, x, y int) api.Point { return api.Point{ID: id, X: x, Y: y} }

func sp(id, lo, hi int) api.Span { return api.Span{ID: id, Lo: lo, Hi: hi} }

type dice struct{ n uint32 }

func (d *dice) roll(most int) int {
	d.n = d.n*1664525 + 1013904223
	return int(d.n>>12) % most
}

func filled(t *testing.T, d *dice, n, changes int) *catalog.Catalog {
	t.Helper()
	c, e := catalog.New(n)
	if e != api.OK {
		t.Fatal(e)
	}
	for range changes {
		change(c, d, n)
	}
	return c
}

// change begins a change, if it may be done, and does it, or turns it back.
func change(c *catalog.Catalog, d *dice, n int) {
	id, x := 1+d.roll(n), d.roll(n)
	if c.Begin(api.Change{Kind: 1 + d.roll(4), Point: pt(id, x, d.roll(n)), Span: sp(id, x, x+d.roll(5))}) != api.OK {
		return
	}
	if d.roll(4) == 0 {
		c.Step(1 + d.roll(2))
		c.Back(9)
		return
	}
	c.Step(9)
}

func same(a, b api.Answer) bool { return a.N == b.N && slices.Equal(a.IDs, b.IDs) }

func asks(d *dice, n int) []api.Query {
	var l []api.Query
	for range 40 {
		x, y, w := d.roll(n), d.roll(n), d.roll(n)
		l = append(l, api.Query{Kind: 1 + d.roll(7), Box: api.Box{X1: x, X2: x + w, Y1: y, Y2: y + w}, Win: api.Win{X1: x, X2: x + w, Y: y}, X: x, Hi: x + w})
	}
	return l
}

func TestOneAndAll(t *testing.T) {
	d := &dice{4}
	c := filled(t, d, 30, 200)
	l := asks(d, 30)
	for _, q := range l {
		answers, ok := audit.One(c, q)
		w := plan.Plain(q, c.Points(), c.Spans())
		if !ok || len(answers) != len(plan.Choice(q)) {
			t.Fatal(q, answers, ok)
		}
		for i, a := range answers {
			if of := plan.Choice(q)[i]; !same(a, w) {
				t.Fatal(q, of, a, w)
			}
			if len(a.IDs) > 0 {
				a.IDs[0] = -1
			}
		}
		for _, a := range answers[1:] {
			if len(a.IDs) > 1 && a.IDs[1] == -1 {
				t.Fatal("shared")
			}
		}
	}
	if got := audit.All(c, l...); len(got) != 0 {
		t.Error(got)
	}
	bad := []api.Query{{}, {Kind: 8}, {Kind: api.AskStab, X: far + 1}, {Kind: api.AskOverlap, X: 1}, {Kind: api.AskBox, Box: api.Box{X1: 1}}, {Kind: api.AskWin, Win: api.Win{X1: 1}}}
	for _, q := range bad {
		if a, ok := audit.One(c, q); len(a) != 0 || ok {
			t.Error(q, a)
		}
	}
	if got := audit.All(c, bad[0], l[0], bad[1], bad[2], l[1], l[2], bad[3]); !slices.Equal(got, []int{0, 2, 3, 6}) {
		t.Error(got)
	}
	if got := audit.All(c); len(got) != 0 {
		t.Error(got)
	}
}

func TestNotQuiet(t *testing.T) {
	d := &dice{4}
	c := filled(t, d, 30, 100)
	l := asks(d, 30)
	c.Begin(api.Change{Kind: api.AddPoint, Point: pt(api.MaxID, 0, 0)})
	for _, k := range []*catalog.Catalog{c, nil} {
		if a, ok := audit.One(k, l[0]); len(a) != 0 || ok {
			t.Error(a)
		}
		if got := audit.All(k, l[0], l[1], l[2]); !slices.Equal(got, []int{0, 1, 2}) {
			t.Error(got)
		}
		if audit.Whole(k) || audit.Costs(k, l...) != [6]int{} || len(audit.All(k)) != 0 {
			t.Error("under way")
		}
	}
	c.Step(9)
	if _, ok := audit.One(c, l[0]); !ok || !audit.Whole(c) {
		t.Error("done")
	}
}

func TestQueries(t *testing.T) {
	p, s := []api.Point{pt(5, 3, -4), pt(1, 9, 9)}, []api.Span{sp(2, 1, 6)}
	b, u := api.Box{X1: 3, X2: 3, Y1: -4, Y2: -4}, api.Box{X1: 9, X2: 9, Y1: 9, Y2: 9}
	v, w := api.Win{X1: 3, X2: 3, Y: -4}, api.Win{X1: 9, X2: 9, Y: 9}
	want := []api.Query{{Kind: 1, Box: b}, {Kind: 2, Box: b}, {Kind: 3, Win: v}, {Kind: 4, Win: v}, {Kind: 1, Box: u}, {Kind: 2, Box: u}, {Kind: 3, Win: w}, {Kind: 4, Win: w},
		{Kind: 5, X: 1}, {Kind: 5, X: 6}, {Kind: 6, X: 1, Hi: 6}, {Kind: 7, X: 1, Hi: 6}, {Kind: 2, Box: api.Box{X1: 3, X2: 9, Y1: -4, Y2: 9}}}
	if l := audit.Queries(p, s); !slices.Equal(l, want) {
		t.Error(l)
	}
	if l := audit.Queries(nil, s); !slices.Equal(l, want[8:12]) {
		t.Error("no point", l)
	}
	if l := audit.Queries(p[:1], nil); !slices.Equal(l, append(slices.Clone(want[:4]), api.Query{Kind: 2, Box: b})) {
		t.Error("no interval", l)
	}
	if l := audit.Queries(nil, nil); len(l) != 0 {
		t.Error("nothing", l)
	}
	// What may not be asked is left out, each by itself.
	if l := audit.Queries([]api.Point{p[0], pt(1, far+1, 0)}, []api.Span{sp(1, 6, 1), sp(1, 5, far+1), sp(1, -far-1, far+1)}); !slices.Equal(l, append(slices.Clone(want[:4]), api.Query{Kind: 5, X: 6}, api.Query{Kind: 5, X: 1}, api.Query{Kind: 5, X: 5})) {
		t.Error("not allowed", l)
	}
}

func TestKinds(t *testing.T) {
	var l []api.Query
	for kind, n := range []int{3, 1, 4, 1, 5, 2, 6, 7} {
		for range n {
			l = append(l, api.Query{Kind: kind})
		}
	}
	l = append(l, api.Query{Kind: -1}, api.Query{Kind: 8}, api.Query{Kind: math.MaxInt}, api.Query{Kind: math.MinInt})
	if k := audit.Kinds(l); k != [8]int{3, 1, 4, 1, 5, 2, 6, 7} {
		t.Error(k)
	}
	if audit.Kinds(nil) != [8]int{} {
		t.Error("nothing")
	}
}

func TestCosts(t *testing.T) {
	d := &dice{6}
	c := filled(t, d, 40, 300)
	l := append(asks(d, 40), api.Query{}, api.Query{Kind: api.AskStab, X: far + 1})
	var w [6]int
	for _, q := range l {
		for _, of := range plan.Choice(q) {
			k, _ := c.Look(q, of)
			k.Step(math.MaxInt)
			w[of] += k.Steps()
		}
	}
	got := audit.Costs(c, l...)
	if got != w || got[0] != 0 || slices.Contains(got[1:], 0) {
		t.Error(got, w)
	}
	if audit.Costs(c) != [6]int{} || audit.Costs(c, l[len(l)-2:]...) != [6]int{} {
		t.Error("nothing can be answered")
	}
}

// P4: whenever nothing is under way all five indexes have the same, and everybody answers alike.
func TestWhole(t *testing.T) {
	c, _ := catalog.New(5)
	if !audit.Whole(c) {
		t.Error("an empty one")
	}
	for seed := range uint32(12) {
		d := &dice{seed*9 + 1}
		n := 4 + d.roll(30)
		c := filled(t, d, n, 0)
		for i := range 150 {
			change(c, d, n)
			if i%3 == 0 && !audit.Whole(c) {
				t.Fatal("not whole", seed, i)
			}
			if got := audit.All(c, audit.Queries(c.Points(), c.Spans())...); len(got) != 0 {
				t.Fatal(seed, i, got)
			}
		}
	}
}
