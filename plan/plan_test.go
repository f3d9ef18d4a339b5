package plan_test

import (
	"math"
	"slices"
	"testing"

	"alidade/api"
	"alidade/plan"
)

const far = api.MaxCoord

func bx(x1, x2, y1, y2 int) api.Box { return api.Box{X1: x1, X2: x2, Y1: y1, Y2: y2} }

func win(x1, x2, y int) api.Win { return api.Win{X1: x1, X2: x2, Y: y} }

// junk is a query all of whose parts are wrong.
func junk(kind int) api.Query {
	return api.Query{Kind: kind, Box: bx(9, 0, far+1, 0), Win: win(9, 0, far+1), X: far + 1, Hi: -far - 1}
}

func TestCheck(t *testing.T) {
	for _, kind := range []int{0, -1, 8, math.MaxInt, math.MinInt} {
		q := api.Query{Kind: kind}
		if plan.Check(q) != api.ErrArg || plan.Check(junk(kind)) != api.ErrArg || len(plan.Choice(q)) != 0 {
			t.Error("kind", kind)
		}
		if i, ok := plan.First(q); i != 0 || ok || plan.Counts(q) || plan.Points(q) {
			t.Error("kind", kind)
		}
		if a := plan.Plain(q, []api.Point{{ID: 1}}, []api.Span{{ID: 1}}); a.N != 0 || len(a.IDs) != 0 || plan.Only(junk(kind)) != (api.Query{}) {
			t.Error("kind", kind)
		}
	}
	for _, c := range []struct {
		q api.Query
		e api.Errno
	}{
		{api.Query{Box: bx(0, 1, 0, 1)}, api.OK}, {api.Query{Box: bx(-far, far, -far, far)}, api.OK}, {api.Query{Box: bx(1, 0, 0, 1)}, api.ErrOrder}, {api.Query{Box: bx(0, 1, 1, 0)}, api.ErrOrder},
		{api.Query{Box: bx(1, 0, 0, far+1)}, api.ErrRange}, {api.Query{Box: bx(-far-1, 0, 0, 0)}, api.ErrRange}, {api.Query{Box: bx(0, 0, 0, 0), X: far + 1, Win: win(1, 0, 0)}, api.OK},
	} {
		for _, c.q.Kind = range []int{api.AskBox, api.AskCount} {
			if e := plan.Check(c.q); e != c.e {
				t.Error(c.q, e)
			}
		}
	}
	for _, c := range []struct {
		q api.Query
		e api.Errno
	}{
		{api.Query{Win: win(0, 1, 5)}, api.OK}, {api.Query{Win: win(1, 0, 5)}, api.ErrOrder}, {api.Query{Win: win(1, 0, far+1)}, api.ErrRange}, {api.Query{Win: win(0, far+1, 0)}, api.ErrRange}, {api.Query{Win: win(-far-1, 0, 0)}, api.ErrRange},
		{api.Query{Win: win(-far, far, far), Box: bx(1, 0, 1, 0), Hi: far + 1}, api.OK},
	} {
		for _, c.q.Kind = range []int{api.AskWin, api.AskWinCount} {
			if e := plan.Check(c.q); e != c.e {
				t.Error(c.q, e)
			}
		}
	}
	for _, c := range []struct {
		q          api.Query
		stab, over api.Errno
	}{
		{api.Query{X: 1, Hi: 2}, api.OK, api.OK}, {api.Query{X: 2, Hi: 1}, api.OK, api.ErrOrder}, {api.Query{X: -far, Hi: far}, api.OK, api.OK}, {api.Query{X: 0, Hi: far + 1}, api.OK, api.ErrRange},
		{api.Query{X: far + 1, Hi: 0}, api.ErrRange, api.ErrRange}, {api.Query{X: -far - 1, Hi: 0}, api.ErrRange, api.ErrRange}, {api.Query{X: 3, Hi: 3, Box: bx(1, 0, 1, 0), Win: win(1, 0, 0)}, api.OK, api.OK},
	} {
		for kind, w := range map[int]api.Errno{api.AskStab: c.stab, api.AskOverlap: c.over, api.AskOverlapCount: c.over} {
			c.q.Kind = kind
			if e := plan.Check(c.q); e != w {
				t.Error(c.q, e)
			}
		}
	}
}

func TestChoice(t *testing.T) {
	for kind, w := range map[int][]int{api.AskBox: {1, 2}, api.AskCount: {2, 1}, api.AskWin: {3, 1}, api.AskWinCount: {3, 1}, api.AskStab: {5, 4}, api.AskOverlap: {4, 5}, api.AskOverlapCount: {4, 5}} {
		q := api.Query{Kind: kind}
		l := plan.Choice(q)
		if i, ok := plan.First(q); !slices.Equal(l, w) || i != w[0] || !ok {
			t.Error(kind, l, i)
		}
		if l[0] = 9; !slices.Equal(plan.Choice(q), w) {
			t.Error("shared")
		}
		if plan.Counts(q) != (kind == 2 || kind == 4 || kind == 7) || plan.Points(q) != (kind <= 4) || plan.Counts(junk(kind)) != plan.Counts(q) || plan.Points(junk(kind)) != plan.Points(q) {
			t.Error("Counts, Points", kind)
		}
		if i, ok := plan.First(junk(kind)); len(plan.Choice(junk(kind))) != 0 || i != 0 || ok {
			t.Error("of what Check does not allow", kind)
		}
	}
}

func TestOnly(t *testing.T) {
	whole := api.Query{Box: bx(1, 2, 3, 4), Win: win(5, 6, 7), X: 8, Hi: 9}
	for kind, w := range map[int]api.Query{
		1: {Kind: 1, Box: whole.Box}, 2: {Kind: 2, Box: whole.Box}, 3: {Kind: 3, Win: whole.Win}, 4: {Kind: 4, Win: whole.Win},
		5: {Kind: 5, X: 8}, 6: {Kind: 6, X: 8, Hi: 9}, 7: {Kind: 7, X: 8, Hi: 9},
	} {
		whole.Kind = kind
		if q := plan.Only(whole); q != w {
			t.Error(kind, q)
		}
		for _, q := range []api.Query{whole, junk(kind)} {
			o := plan.Only(q)
			p, s := entries()
			a, b := plan.Plain(q, p, s), plan.Plain(o, p, s)
			if plan.Check(o) != plan.Check(q) || !slices.Equal(plan.Choice(o), plan.Choice(q)) || a.N != b.N || !slices.Equal(a.IDs, b.IDs) {
				t.Error("Only changes", q)
			}
		}
	}
}

func entries() ([]api.Point, []api.Span) {
	var p []api.Point
	var s []api.Span
	for i := range 40 {
		p = append(p, api.Point{ID: 1 + i*7%13, X: i * 5 % 11, Y: i * 3 % 7})
		s = append(s, api.Span{ID: 1 + i*5%17, Lo: i * 5 % 11, Hi: i*5%11 + i%4})
	}
	return p, s
}

func TestPlain(t *testing.T) {
	p, s := entries()
	wasP, wasS := slices.Clone(p), slices.Clone(s)
	for x := -1; x < 12; x++ {
		for w := -1; w < 5; w++ {
			for y := 0; y < 7; y += 2 {
				ask := api.Query{Box: bx(x, x+w, y, y+w), Win: win(x, x+w, y), X: x, Hi: x + w}
				var ids [8][]int
				for _, q := range p {
					if x <= q.X && q.X <= x+w && y <= q.Y {
						ids[3] = append(ids[3], q.ID)
						if q.Y <= y+w {
							ids[1] = append(ids[1], q.ID)
						}
					}
				}
				for _, u := range s {
					if u.Lo <= x && x <= u.Hi {
						ids[5] = append(ids[5], u.ID)
					}
					if u.Lo <= x+w && x <= u.Hi && w >= 0 {
						ids[6] = append(ids[6], u.ID)
					}
				}
				ids[2], ids[4], ids[7] = ids[1], ids[3], ids[6]
				for ask.Kind = 1; ask.Kind <= 7; ask.Kind++ {
					a := plan.Plain(ask, p, s)
					l := slices.Sorted(slices.Values(ids[ask.Kind]))
					n := len(l)
					if plan.Counts(ask) {
						l = nil
					}
					if a.N != n || !slices.Equal(a.IDs, l) {
						t.Fatal(ask, a, l)
					}
				}
			}
		}
	}
	if !slices.Equal(p, wasP) || !slices.Equal(s, wasS) {
		t.Error("changed")
	}
}
