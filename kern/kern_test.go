package kern_test

import (
	"math"
	"math/big"
	"testing"

	"alidade/api"
	"alidade/kern"
)

const far = api.MaxCoord

func pt(id, x, y int) api.Point { return api.Point{ID: id, X: x, Y: y} }

func at(x, y int) api.Point { return api.Point{X: x, Y: y} }

func TestGoodAndFair(t *testing.T) {
	for _, c := range []struct {
		p  api.Point
		ok bool
	}{
		{pt(1, 0, 0), true}, {pt(api.MaxID, far, -far), true}, {pt(0, 0, 0), false}, {pt(-1, 0, 0), false}, {pt(api.MaxID+1, 0, 0), false},
		{pt(1, far+1, 0), false}, {pt(1, -far-1, 0), false}, {pt(1, 0, far+1), false}, {pt(1, 0, -far-1), false}, {pt(1, math.MinInt, 0), false},
	} {
		if kern.Good(c.p) != c.ok {
			t.Error("Good", c.p)
		}
	}
	for _, c := range []struct {
		s  api.Span
		ok bool
	}{
		{api.Span{ID: 1}, true}, {api.Span{ID: api.MaxID, Lo: -far, Hi: far}, true}, {api.Span{ID: 1, Lo: 3, Hi: 2}, false}, {api.Span{ID: 1, Lo: 3, Hi: 3}, true},
		{api.Span{ID: 0, Lo: 1, Hi: 2}, false}, {api.Span{ID: api.MaxID + 1, Lo: 1, Hi: 2}, false}, {api.Span{ID: 1, Lo: -far - 1, Hi: 2}, false}, {api.Span{ID: 1, Lo: 1, Hi: far + 1}, false},
	} {
		if kern.Fair(c.s) != c.ok {
			t.Error("Fair", c.s)
		}
	}
}

func rank(a, b [3]int) int {
	for i := range a {
		if a[i] < b[i] {
			return -1
		}
		if a[i] > b[i] {
			return 1
		}
	}
	return 0
}

func TestOrders(t *testing.T) {
	v := []int{math.MinInt, -1, 0, 2, math.MaxInt}
	var all [][3]int
	for _, a := range v {
		for _, b := range v {
			for _, c := range v {
				all = append(all, [3]int{a, b, c})
			}
		}
	}
	for _, a := range all {
		for _, b := range all {
			p, q := pt(a[0], a[1], a[2]), pt(b[0], b[1], b[2])
			s, u := api.Span{ID: a[0], Lo: a[1], Hi: a[2]}, api.Span{ID: b[0], Lo: b[1], Hi: b[2]}
			first := rank([3]int{a[1], a[2], a[0]}, [3]int{b[1], b[2], b[0]})
			second := rank([3]int{a[2], a[1], a[0]}, [3]int{b[2], b[1], b[0]})
			if kern.Cmp(p, q) != first || kern.Order(s, u) != first || kern.Up(p, q) != second || kern.Ends(s, u) != second {
				t.Fatal(a, b)
			}
		}
	}
}

var places = []api.Point{at(0, 0), at(far, 0), at(0, 1), at(-far, -far), at(far, far), at(far, far-1), at(-far, far), at(1, 1), at(2, 2), at(3, 3), at(-2, 5), at(7, -3), at(2, 1)}

func bigTurn(a, b, c api.Point) int {
	n := func(x int) *big.Int { return big.NewInt(int64(x)) }
	l := new(big.Int).Mul(n(b.X-a.X), n(c.Y-a.Y))
	r := new(big.Int).Mul(n(b.Y-a.Y), n(c.X-a.X))
	return l.Cmp(r)
}

func TestTurnAndBetween(t *testing.T) {
	if kern.Turn(at(0, 0), at(far, 0), at(0, 1)) != 1 {
		t.Error("left")
	}
	for _, a := range places {
		for _, b := range places {
			for _, c := range places {
				w := bigTurn(a, b, c)
				if n := kern.Turn(a, b, c); n != w {
					t.Error("Turn", a, b, c, n)
				}
				if kern.Turn(b, c, a) != w || kern.Turn(a, c, b) != -w {
					t.Error("Turn about", a, b, c)
				}
				on := w == 0 && min(a.X, b.X) <= c.X && c.X <= max(a.X, b.X) && min(a.Y, b.Y) <= c.Y && c.Y <= max(a.Y, b.Y)
				if kern.Between(a, b, c) != on {
					t.Error("Between", a, b, c)
				}
			}
		}
	}
	for _, bad := range []api.Point{at(far+1, 0), at(0, far+1), at(-far-1, 0), at(0, -far-1), at(math.MinInt, math.MaxInt)} {
		o, e := at(0, 0), at(0, 5)
		if kern.Turn(bad, o, e) != 0 || kern.Turn(o, bad, e) != 0 || kern.Turn(o, e, bad) != 0 || kern.Turn(at(1, 2), bad, at(0, 7)) != 0 {
			t.Error("Turn of", bad)
		}
		if kern.Between(bad, bad, bad) || kern.Between(o, bad, o) || kern.Between(bad, o, o) || kern.Between(o, e, bad) {
			t.Error("Between of", bad)
		}
	}
	if !kern.Between(at(1, 1), at(1, 1), at(1, 1)) || kern.Between(at(1, 1), at(1, 1), at(2, 2)) {
		t.Error("a piece of one place")
	}
}

func TestArea(t *testing.T) {
	for _, c := range []struct {
		l []api.Point
		w api.Wide
	}{
		{nil, api.Wide{}}, {[]api.Point{at(3, 4)}, api.Wide{}}, {[]api.Point{at(3, 4), at(5, 6)}, api.Wide{}},
		{[]api.Point{at(0, 0), at(2, 0), at(0, 2)}, api.Wide{Lo: 4}}, {[]api.Point{at(0, 0), at(0, 2), at(2, 0)}, api.Wide{Hi: -1, Lo: math.MaxUint64 - 3}},
		{[]api.Point{at(-far, -far), at(far, -far), at(far, far), at(-far, far)}, api.Wide{Hi: 1 << 19}},
	} {
		if w, ok := kern.Area(c.l...); w != c.w || !ok {
			t.Error(c.l, w, ok)
		}
	}
	for _, bad := range []api.Point{at(far+1, 0), at(0, -far-1)} {
		if w, ok := kern.Area(at(0, 0), at(1, 0), bad, at(4, 4)); ok || w != (api.Wide{}) {
			t.Error("Area of", bad)
		}
	}
	many := make([]api.Point, 1<<20+1)
	sum := new(big.Int)
	for i := range many {
		many[i] = at(far*(i%2), far-i*i%far)
	}
	for i, p := range many[:1<<20] {
		q := many[(i+1)%(1<<20)]
		sum.Add(sum, new(big.Int).Mul(big.NewInt(int64(p.X)), big.NewInt(int64(q.Y))))
		sum.Sub(sum, new(big.Int).Mul(big.NewInt(int64(q.X)), big.NewInt(int64(p.Y))))
	}
	if w, ok := kern.Area(many...); ok || w != (api.Wide{}) {
		t.Error("too many")
	}
	w, ok := kern.Area(many[:1<<20]...)
	got := new(big.Int).Lsh(big.NewInt(w.Hi), 64)
	if got.Add(got, new(big.Int).SetUint64(w.Lo)); !ok || got.Cmp(sum) != 0 {
		t.Error("just as many", w, ok, sum)
	}
}
