package hull_test

import (
	"math"
	"math/big"
	"slices"
	"testing"

	"alidade/api"
	"alidade/hull"
	"alidade/kern"
)

const far = api.MaxCoord

func pt(id, x, y int) api.Point { return api.Point{ID: id, X: x, Y: y} }

type dice struct{ n uint32 }

func (d *dice) roll(most int) int {
	d.n = d.n*1664525 + 1013904223
	return int(d.n>>12) % most
}

// corners is the hull, done plainly: a place is a corner just if it lies neither on a piece between two others, nor in a triangle of three.
func corners(l []api.Point) []api.Point {
	var places []api.Point
	for _, p := range l {
		i := slices.IndexFunc(places, func(q api.Point) bool { return p.X == q.X && p.Y == q.Y })
		if i < 0 {
			places = append(places, p)
		} else if p.ID < places[i].ID {
			places[i] = p
		}
	}
	var c []api.Point
	for i, p := range places {
		if !inside(slices.Delete(slices.Clone(places), i, i+1), p) {
			c = append(c, p)
		}
	}
	if len(c) == 0 {
		return nil
	}
	first := slices.MinFunc(c, kern.Cmp)
	rest := slices.DeleteFunc(slices.Clone(c), func(p api.Point) bool { return p == first })
	slices.SortFunc(rest, func(p, q api.Point) int { return kern.Turn(first, q, p) })
	return append([]api.Point{first}, rest...)
}

// inside tells whether p lies in what some of l span.
func inside(l []api.Point, p api.Point) bool {
	for i, a := range l {
		for j, b := range l[:i] {
			if kern.Between(a, b, p) {
				return true
			}
			for _, c := range l[:j] {
				s, t, u := kern.Turn(a, b, p), kern.Turn(b, c, p), kern.Turn(c, a, p)
				if s != 0 && s == t && t == u {
					return true
				}
			}
		}
	}
	return slices.ContainsFunc(l, func(q api.Point) bool { return p.X == q.X && p.Y == q.Y })
}

func some(d *dice, n, wide int) []api.Point {
	var l []api.Point
	for range n {
		l = append(l, pt(1+d.roll(30), d.roll(wide), d.roll(wide)))
	}
	return l
}

func of(t *testing.T, l []api.Point) []api.Point {
	t.Helper()
	h, e := hull.Of(l...)
	if e != api.OK {
		t.Fatal(l, e)
	}
	return h
}

func TestOf(t *testing.T) {
	for _, c := range []struct{ l, h []api.Point }{
		{nil, nil}, {[]api.Point{pt(4, 1, 1)}, []api.Point{pt(4, 1, 1)}}, {[]api.Point{pt(4, 1, 1), pt(2, 1, 1), pt(3, 1, 1)}, []api.Point{pt(2, 1, 1)}},
		{[]api.Point{pt(1, 0, 0), pt(2, 2, 0), pt(3, 1, 0), pt(4, 1, 1)}, []api.Point{pt(1, 0, 0), pt(2, 2, 0), pt(4, 1, 1)}},
		{[]api.Point{pt(1, 3, 3), pt(2, 1, 1), pt(3, 2, 2), pt(9, 1, 1), pt(8, 3, 3)}, []api.Point{pt(2, 1, 1), pt(1, 3, 3)}},
		{[]api.Point{pt(1, 5, 3), pt(2, 5, 1), pt(3, 5, 2)}, []api.Point{pt(2, 5, 1), pt(1, 5, 3)}},
		{[]api.Point{pt(1, far, far), pt(2, -far, far), pt(3, far, -far), pt(4, -far, -far), pt(5, 0, 0), pt(6, far, 0)}, []api.Point{pt(4, -far, -far), pt(3, far, -far), pt(1, far, far), pt(2, -far, far)}},
		{[]api.Point{pt(1, 0, 0), pt(2, far, 1), pt(3, far-1, 1), pt(4, 1, 0)}, []api.Point{pt(1, 0, 0), pt(4, 1, 0), pt(2, far, 1), pt(3, far-1, 1)}},
	} {
		was := slices.Clone(c.l)
		if h, e := hull.Of(c.l...); !slices.Equal(h, c.h) || e != api.OK || !slices.Equal(c.l, was) {
			t.Error(c.l, h, e)
		}
	}
	d := &dice{3}
	for round := range 1200 {
		l := some(d, d.roll(12), 2+d.roll(7))
		h := of(t, l)
		if w := corners(l); !slices.Equal(h, w) {
			t.Fatal(round, l, h, w)
		}
		if !hull.Check(h) || !slices.Equal(of(t, h), h) {
			t.Fatal("the hull of a hull", l, h)
		}
		for _, p := range l {
			if !hull.Has(h, p) {
				t.Fatal("each of l lies in it", l, h, p)
			}
		}
		for x := -1; x < 9; x++ {
			for y := -1; y < 9; y++ {
				if hull.Has(h, pt(7, x, y)) != inside(h, pt(7, x, y)) {
					t.Fatal("Has", h, x, y)
				}
			}
		}
		k := d.roll(len(l) + 1)
		both, e := hull.Merge(l[:k], l[k:])
		parts, f := hull.Merge(of(t, l[:k]), of(t, l[k:]))
		if !slices.Equal(both, h) || e != api.OK || !slices.Equal(parts, h) || f != api.OK {
			t.Fatal("Merge", l, both, parts, h)
		}
		if len(h) > 0 {
			if h[0].X++; !slices.Equal(of(t, l), both) {
				t.Fatal("shared")
			}
		}
	}
}

func TestErrors(t *testing.T) {
	many := make([]api.Point, 65537)
	for i := range many {
		many[i] = pt(i+1, i, i*i%977)
	}
	if h, e := hull.Of(many...); len(h) != 0 || e != api.ErrLong {
		t.Error("too many", e)
	}
	if h, e := hull.Of(many[:65536]...); len(h) < 3 || e != api.OK || !hull.Check(h) {
		t.Error("just as many", e)
	}
	if h, e := hull.Merge(many[:40000], many[:40000]); len(h) != 0 || e != api.ErrLong {
		t.Error("too many together", e)
	}
	many[70].ID = 0
	if h, e := hull.Of(many...); len(h) != 0 || e != api.ErrLong {
		t.Error("ErrLong comes first", e)
	}
	if hull.Check(many) || hull.Has(many, pt(1, 0, 0)) {
		t.Error("Check of too many")
	}
	for _, p := range []api.Point{pt(0, 0, 0), pt(api.MaxID+1, 0, 0), pt(1, far+1, 0), pt(1, 0, -far-1)} {
		if h, e := hull.Of(pt(1, 0, 0), p); len(h) != 0 || e != api.ErrArg {
			t.Error(p, e)
		}
		if h, e := hull.Merge([]api.Point{pt(1, 0, 0)}, []api.Point{p}); len(h) != 0 || e != api.ErrArg {
			t.Error(p, e)
		}
		if hull.Check([]api.Point{p}) || hull.Has([]api.Point{p}, pt(1, 0, 0)) || hull.Has([]api.Point{pt(1, -9, -9), pt(2, 9, -9), pt(3, 0, 9)}, p) {
			t.Error("Check", p)
		}
		if q, ok := hull.Far([]api.Point{p}, 1, 1); q != (api.Point{}) || ok {
			t.Error("Far", p)
		}
	}
}

func TestCheck(t *testing.T) {
	a, b, c := pt(1, 0, 0), pt(2, 4, 0), pt(3, 0, 4)
	for _, x := range []struct {
		h  []api.Point
		ok bool
	}{
		{nil, true}, {[]api.Point{a}, true}, {[]api.Point{a, b}, true}, {[]api.Point{b, a}, false}, {[]api.Point{a, b, c}, true}, {[]api.Point{b, c, a}, false}, {[]api.Point{a, c, b}, false}, {[]api.Point{a, a}, false}, {[]api.Point{a, pt(9, 0, 0)}, false},
		{[]api.Point{a, pt(9, 2, 0), b, c}, false}, {[]api.Point{a, pt(9, 1, 1), b, c}, false}, {[]api.Point{a, b, pt(7, 4, 4), c}, true},
	} {
		if hull.Check(x.h) != x.ok {
			t.Error(x.h)
		}
		if !x.ok && hull.Has(x.h, a) {
			t.Error("Has", x.h)
		}
		if q, ok := hull.Far(x.h, 1, 0); !x.ok && (q != (api.Point{}) || ok) {
			t.Error("Far", x.h)
		}
	}
	if hull.Has(nil, a) {
		t.Error("nothing has nothing")
	}
}

func TestFar(t *testing.T) {
	d := &dice{8}
	for range 600 {
		h := of(t, some(d, d.roll(12), 2+d.roll(7)))
		dx, dy := d.roll(9)-4, d.roll(9)-4
		if d.roll(5) == 0 {
			dx, dy = dx*far/4, dy*far/4
		}
		var w api.Point
		for i, p := range h {
			a, b := p.X*dx+p.Y*dy, w.X*dx+w.Y*dy
			if i == 0 || a > b || a == b && kern.Cmp(p, w) < 0 {
				w = p
			}
		}
		if p, ok := hull.Far(h, dx, dy); p != w || ok != (len(h) > 0) {
			t.Fatal(h, dx, dy, p, w)
		}
	}
	h := []api.Point{pt(4, -far, -far), pt(3, far, -far), pt(1, far, far), pt(2, -far, far)}
	for _, c := range []struct {
		dx, dy, id int
	}{{far, far, 1}, {-far, far, 2}, {far, -far, 3}, {-far, -far, 4}, {far, 0, 3}, {0, far, 2}, {-1, 0, 4}, {0, -1, 4}, {0, 0, 4}, {far, far - 1, 1}} {
		if p, ok := hull.Far(h, c.dx, c.dy); p.ID != c.id || !ok {
			t.Error(c, p)
		}
	}
	for _, c := range [][2]int{{far + 1, 0}, {0, far + 1}, {-far - 1, 0}, {0, math.MinInt}} {
		if p, ok := hull.Far(h, c[0], c[1]); p != (api.Point{}) || ok {
			t.Error(c, p)
		}
	}
	if p, ok := hull.Far(nil, 1, 1); p != (api.Point{}) || ok {
		t.Error("no corners")
	}
}

func TestTurnsAndArea(t *testing.T) {
	d := &dice{2}
	for range 300 {
		l := some(d, d.roll(7), 5)
		stops := hull.Turns(l...)
		if len(stops) != len(l) {
			t.Fatal(l, stops)
		}
		sum := new(big.Int)
		for i, p := range l {
			before, behind := l[(i+len(l)-1)%len(l)], l[(i+1)%len(l)]
			if stops[i] != (api.Stop{Point: p, Turn: kern.Turn(before, p, behind)}) {
				t.Fatal(l, stops)
			}
			sum.Add(sum, big.NewInt(int64(p.X*behind.Y-behind.X*p.Y)))
		}
		a, ok := hull.Area(l)
		if !ok || int64(a.Lo) != sum.Int64() {
			t.Fatal("Area", l, a, ok)
		}
		h := of(t, l)
		for _, s := range hull.Turns(h...) {
			if len(h) > 2 && s.Turn != 1 {
				t.Fatal("corners turn left", h)
			}
		}
	}
	if s := hull.Turns(pt(0, far+1, 0), pt(1, 0, 0), pt(2, 5, 5)); len(s) != 3 || s[0].Turn != 0 || s[1].Turn != 0 || s[2].Turn != 0 || s[0].Point != pt(0, far+1, 0) {
		t.Error("no coordinates", s)
	}
	if a, ok := hull.Area([]api.Point{pt(0, far+1, 0)}); a != (api.Wide{}) || ok {
		t.Error("no coordinates", a)
	}
	if a, ok := hull.Area(nil); a != (api.Wide{}) || !ok || len(hull.Turns()) != 0 {
		t.Error("nothing", a)
	}
}
