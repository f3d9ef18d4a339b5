package pst_test

import (
	"math"
	"slices"
	"testing"

	"alidade/api"
	"alidade/kern"
	"alidade/pst"
)

const far = api.MaxCoord

var all = api.Win{X1: -far, X2: far, Y: -far}

func pt(id, x, y int) api.Point { return api.Point{ID: id, X: x, Y: y} }

type dice struct{ n uint32 }

func (d *dice) roll(most int) int {
	d.n = d.n*1664525 + 1013904223
	return int(d.n>>12) % most
}

func made(t *testing.T, most int, l ...api.Point) *pst.Tree {
	t.Helper()
	k, e := pst.New(most)
	if k == nil || e != api.OK {
		t.Fatal(most, e)
	}
	for _, p := range l {
		if e := k.Insert(p); e != api.OK {
			t.Fatal(p, e)
		}
	}
	return k
}

func sees(w api.Win, p api.Point) bool { return w.X1 <= p.X && p.X <= w.X2 && w.Y <= p.Y }

// shape looks at all nodes from n on down: their points, and how many levels; and whether all stands as it should.
func shape(t *testing.T, n *pst.Node) (l []api.Point, depth int) {
	t.Helper()
	if n == nil {
		return nil, 0
	}
	p := n.Point()
	hit, kids := n.Look(all)
	if !hit || len(kids) > 2 {
		t.Fatal("Look at all", p, hit, len(kids))
	}
	var parts [][]api.Point
	for _, kid := range kids {
		below, d := shape(t, kid)
		for _, q := range below {
			if kern.Up(q, p) >= 0 {
				t.Fatal("no heap", p, q)
			}
		}
		parts, depth = append(parts, below), max(depth, d)
	}
	if len(parts) == 2 {
		for _, q := range parts[0] {
			for _, r := range parts[1] {
				if kern.Cmp(q, r) != kern.Cmp(parts[0][0], parts[1][0]) {
					t.Fatal("sides", q, r)
				}
			}
		}
	}
	look(t, n, kids, parts)
	l = append(append(l, p), slices.Concat(parts...)...)
	if n.Size() != len(l) {
		t.Fatal("Size", n.Size(), len(l))
	}
	return l, depth + 1
}

// look looks whether Look leads to all that is seen, and, as far as can be told from outside, to nothing else.
func look(t *testing.T, n *pst.Node, kids []*pst.Node, parts [][]api.Point) {
	t.Helper()
	p := n.Point()
	for _, w := range []api.Win{{X1: 2, X2: 5, Y: 3}, {X1: p.X, X2: p.X, Y: p.Y}, {X1: 0, X2: 9, Y: p.Y + 1}, {X1: 3, X2: 3, Y: 0}, {X1: 6, X2: 4, Y: -far}, {X1: 0, X2: 4, Y: 1}, {X1: 5, X2: 20, Y: -far}} {
		hit, next := n.Look(w)
		if hit != sees(w, p) {
			t.Fatal("hit", w, p)
		}
		if p.Y < w.Y && len(next) != 0 {
			t.Fatal("none is to be looked at", w, p)
		}
		if p.Y < w.Y {
			continue
		}
		for _, k := range next {
			if !slices.Contains(kids, k) {
				t.Fatal("no kid", w)
			}
		}
		for i, part := range parts {
			for _, q := range part {
				if w.X1 <= q.X && q.X <= w.X2 && !slices.Contains(next, kids[i]) {
					t.Fatal("left out", w, q)
				}
			}
		}
	}
	for _, w := range []api.Win{{X1: -far, X2: -far, Y: -far}, {X1: far, X2: far, Y: -far}} {
		if _, next := n.Look(w); len(next) > 1 {
			t.Fatal("both sides", w)
		}
	}
}

func bound(n int) int {
	if n < 1 {
		return 0
	}
	b := 2
	for n = n * 3 / 4; n >= 1; n = n * 3 / 4 {
		b++
	}
	return b
}

func check(t *testing.T, k *pst.Tree, has map[api.Point]bool, d *dice) {
	t.Helper()
	l, depth := shape(t, k.Root())
	if len(l) != len(has) || k.Len() != len(has) || k.Depth() != depth || depth > bound(len(l)) || !k.Check() {
		t.Fatal("shape", len(l), len(has), k.Len(), depth, k.Depth(), k.Check())
	}
	for _, p := range l {
		if !has[p] {
			t.Fatal("not there", p)
		}
	}
	wins := []api.Win{all, {X1: 5, X2: 3, Y: 0}, {X1: math.MinInt, X2: math.MaxInt, Y: math.MinInt}}
	for range 4 {
		x := d.roll(10)
		wins = append(wins, api.Win{X1: x, X2: x + d.roll(6) - 1, Y: d.roll(10)})
	}
	for _, w := range wins {
		var ids []int
		best, some := api.Point{}, false
		for p := range has {
			if sees(w, p) {
				ids = append(ids, p.ID)
			}
			if w.X1 <= p.X && p.X <= w.X2 && (!some || kern.Up(p, best) > 0) {
				best, some = p, true
			}
		}
		slices.Sort(ids)
		if got := k.Report(w); !slices.Equal(got, ids) || k.Count(w) != len(ids) {
			t.Fatal("Report", w, got, ids)
		}
		if p, ok := k.Highest(w.X1, w.X2); ok != some || p != best {
			t.Fatal("Highest", w, p, ok, best)
		}
	}
}

func TestNew(t *testing.T) {
	for _, most := range []int{0, -1, api.MaxPool + 1, 1 << 62} {
		if k, e := pst.New(most); k != nil || e != api.ErrArg {
			t.Error(most, e)
		}
	}
	if one := made(t, 1, pt(1, 0, 0)); one.Insert(pt(2, 0, 0)) != api.ErrFull || one.Len() != 1 {
		t.Error("room for one")
	}
	k := made(t, api.MaxPool)
	check(t, k, nil, &dice{1})
	if k.Root() != nil || k.Delete(pt(1, 0, 0)) != api.ErrNone || k.Has(pt(1, 0, 0)) {
		t.Error("empty")
	}
}

func TestErrors(t *testing.T) {
	k := made(t, 2, pt(1, 0, 0))
	for _, p := range []api.Point{pt(0, 1, 1), pt(-5, 1, 1), pt(api.MaxID+1, 1, 1), pt(1, far+1, 0), pt(1, 0, -far-1)} {
		if k.Insert(p) != api.ErrArg || k.Delete(p) != api.ErrNone || k.Has(p) {
			t.Error(p)
		}
	}
	if k.Insert(pt(1, 0, 0)) != api.ErrDup || k.Insert(pt(2, 0, 0)) != api.OK || k.Insert(pt(3, 0, 0)) != api.ErrFull || k.Insert(pt(2, 0, 0)) != api.ErrDup || k.Insert(pt(0, 0, 0)) != api.ErrArg {
		t.Error("Insert")
	}
	if !k.Has(pt(2, 0, 0)) || k.Has(pt(3, 0, 0)) || k.Has(pt(1, 0, 1)) || k.Delete(pt(1, 1, 0)) != api.ErrNone || k.Len() != 2 {
		t.Error("Has")
	}
	if k.Delete(pt(1, 0, 0)) != api.OK || k.Delete(pt(1, 0, 0)) != api.ErrNone || k.Len() != 1 || k.Insert(pt(5, 0, 0)) != api.OK {
		t.Error("Delete")
	}
}

func TestExample(t *testing.T) {
	k := made(t, 5, pt(1, 0, 5), pt(2, 3, 9))
	if l := k.Report(api.Win{X1: 0, X2: 9, Y: 6}); !slices.Equal(l, []int{2}) {
		t.Error(l)
	}
	k = made(t, 9, pt(api.MaxID, far, far), pt(1, -far, -far), pt(1, far, -far), pt(1, -far, far))
	if l := k.Report(all); !slices.Equal(l, []int{1, 1, 1, api.MaxID}) {
		t.Error(l)
	}
	if p, ok := k.Highest(-far, far); p != pt(api.MaxID, far, far) || !ok {
		t.Error(p)
	}
}

func TestAgainstAModel(t *testing.T) {
	for seed := range uint32(6) {
		d := &dice{seed}
		most, wide := 40+d.roll(60), 4+d.roll(8)
		k, has := made(t, most), map[api.Point]bool{}
		for step := range 1500 {
			p := pt(1+d.roll(3), d.roll(wide), d.roll(wide))
			if drops := 1 + step/300%3*2; d.roll(6) >= drops {
				e := api.OK
				if has[p] {
					e = api.ErrDup
				} else if len(has) == most {
					e = api.ErrFull
				} else {
					has[p] = true
				}
				if f := k.Insert(p); f != e {
					t.Fatal(step, p, f, e)
				}
			} else if f := k.Delete(p); (f == api.OK) != has[p] || f != api.OK && f != api.ErrNone {
				t.Fatal(step, p, f)
			} else {
				delete(has, p)
			}
			if k.Has(p) != has[p] {
				t.Fatal("Has", p)
			}
			if step%7 == 0 {
				check(t, k, has, d)
			}
		}
	}
}

func TestItStaysFlat(t *testing.T) {
	for _, f := range []func(i int) api.Point{
		func(i int) api.Point { return pt(i+1, i, i) },
		func(i int) api.Point { return pt(i+1, i, -i) },
		func(i int) api.Point { return pt(i+1, 3, 3) },
		func(i int) api.Point { return pt(i+1, i%2, -i) },
		func(i int) api.Point { return pt(i+1, -i, i%5) },
	} {
		k, has := made(t, 3000), map[api.Point]bool{}
		for i := range 300 {
			k.Insert(f(i))
			has[f(i)] = true
			if k.Depth() > bound(k.Len()) {
				t.Fatal(i, k.Depth())
			}
		}
		check(t, k, has, &dice{1})
		for i := range 300 {
			k.Delete(f(i))
			delete(has, f(i))
			if k.Depth() > bound(k.Len()) {
				t.Fatal(i, k.Depth())
			}
			if i%50 == 0 {
				check(t, k, has, &dice{2})
			}
		}
	}
}

func TestComesAndGoes(t *testing.T) {
	k := made(t, 9, pt(1, 0, 5), pt(2, 3, 1), pt(3, 3, 1), pt(4, 2, 2))
	was := k.Report(all)
	for _, p := range []api.Point{pt(9, 0, 0), pt(1, 0, 4), pt(5, 3, 9), pt(5, 3, 1)} {
		if k.Insert(p) != api.OK || k.Delete(p) != api.OK {
			t.Fatal(p)
		}
		h, ok := k.Highest(-far, far)
		if !slices.Equal(k.Report(all), was) || k.Len() != 4 || k.Has(p) || k.Count(all) != 4 || h != pt(1, 0, 5) || !ok || !k.Check() {
			t.Error(p)
		}
	}
}

func TestNil(t *testing.T) {
	var k *pst.Tree
	var n *pst.Node
	hit, next := n.Look(all)
	if n.Point() != (api.Point{}) || hit || len(next) != 0 || n.Size() != 0 {
		t.Error("node")
	}
	h, ok := k.Highest(-far, far)
	if k.Insert(pt(1, 0, 0)) != api.ErrArg || k.Delete(pt(1, 0, 0)) != api.ErrArg || k.Has(pt(1, 0, 0)) || k.Len() != 0 || k.Root() != nil ||
		len(k.Report(all)) != 0 || k.Count(all) != 0 || h != (api.Point{}) || ok || k.Depth() != 0 || k.Check() {
		t.Error("tree")
	}
}
