package kd_test

import (
	"math"
	"slices"
	"testing"

	"alidade/api"
	"alidade/box"
	"alidade/kd"
	"alidade/kern"
)

const far = api.MaxCoord

func pt(id, x, y int) api.Point { return api.Point{ID: id, X: x, Y: y} }

type dice struct{ n uint32 }

func (d *dice) roll(most int) int {
	d.n = d.n*1664525 + 1013904223
	return int(d.n>>12) % most
}

func made(t *testing.T, most int, l ...api.Point) *kd.Tree {
	t.Helper()
	k, e := kd.New(most)
	if k == nil || e != api.OK {
		t.Fatal(most, e)
	}
	for _, p := range l {
		if e := k.Insert(p); e != api.OK {
			t.Fatal(p, e)
		}
	}
	return k
}

// shape looks at all nodes from n on down: their points, how many levels, how many are marked; and whether all stands as it should.
func shape(t *testing.T, n *kd.Node, level int) (l []api.Point, depth, marked int) {
	t.Helper()
	if n == nil {
		return nil, 0, 0
	}
	p, here := n.Point()
	if !here {
		marked++
	}
	l = append(l, p)
	compare := kern.Cmp
	if level%2 == 1 {
		compare = kern.Up
	}
	kids := n.Kids()
	if len(kids) > 2 {
		t.Fatal("kids", len(kids))
	}
	for i, kid := range kids {
		below, d, m := shape(t, kid, level+1)
		side := compare(below[0], p)
		if side == 0 || len(kids) == 2 && side != 2*i-1 {
			t.Fatal("side", p, below[0], level)
		}
		for _, q := range below {
			if compare(q, p) != side {
				t.Fatal("both sides", p, q, level)
			}
		}
		l, depth, marked = append(l, below...), max(depth, d), marked+m
	}
	if b, _ := box.Around(l...); n.Box() != b || n.Size() != len(l) {
		t.Fatal("box or size", n.Box(), b, n.Size(), len(l))
	}
	return l, depth + 1, marked
}

func bound(n int) int {
	if n < 1 {
		return 0
	}
	b := 2
	for n = n * 3 / 4; n >= 1; n = n * 3 / 4 {
		b++
	}
	return b
}

func ids(w map[api.Point]bool, b api.Box) []int {
	var l []int
	for p := range w {
		if b.X1 <= p.X && p.X <= b.X2 && b.Y1 <= p.Y && p.Y <= b.Y2 {
			l = append(l, p.ID)
		}
	}
	slices.Sort(l)
	return l
}

func look(t *testing.T, k *kd.Tree, w map[api.Point]bool, d *dice) {
	t.Helper()
	all, depth, marked := shape(t, k.Root(), 0)
	if k.Len() != len(w) || len(all)-marked != len(w) || k.Depth() != depth || depth > bound(len(all)) || marked > (len(all)+1)/2 || !k.Check() {
		t.Fatal("shape", k.Len(), len(w), len(all), marked, depth, k.Depth(), k.Check())
	}
	boxes := []api.Box{box.All(), {X1: 3, X2: 2, Y1: 0, Y2: 9}, {X1: 0, X2: 9, Y1: 4, Y2: 3}}
	for range 4 {
		x, y := d.roll(10), d.roll(10)
		boxes = append(boxes, api.Box{X1: x, X2: x + d.roll(6) - 1, Y1: y, Y2: y + d.roll(6) - 1})
	}
	for _, b := range boxes {
		l := ids(w, b)
		if got := k.Report(b); !slices.Equal(got, l) || k.Count(b) != len(l) {
			t.Fatal("Report", b, got, l, k.Count(b))
		}
	}
}

func TestNew(t *testing.T) {
	for _, most := range []int{0, -1, api.MaxPool + 1, 1 << 62} {
		if k, e := kd.New(most); k != nil || e != api.ErrArg {
			t.Error(most, e)
		}
	}
	if one := made(t, 1, pt(1, 0, 0)); one.Insert(pt(2, 0, 0)) != api.ErrFull || one.Len() != 1 {
		t.Error("room for one")
	}
	k := made(t, api.MaxPool)
	if k.Len() != 0 || k.Root() != nil || k.Depth() != 0 || k.Built() != 0 || len(k.Report(box.All())) != 0 || k.Count(box.All()) != 0 || !k.Check() {
		t.Error("empty")
	}
	if k.Delete(pt(1, 0, 0)) != api.ErrNone || k.Has(pt(1, 0, 0)) {
		t.Error("nothing there")
	}
}

func TestErrors(t *testing.T) {
	k := made(t, 2, pt(1, 0, 0))
	for _, p := range []api.Point{pt(0, 1, 1), pt(-5, 1, 1), pt(api.MaxID+1, 1, 1), pt(1, far+1, 0), pt(1, 0, -far-1), pt(1, math.MinInt, 0)} {
		if k.Insert(p) != api.ErrArg || k.Delete(p) != api.ErrNone || k.Has(p) {
			t.Error(p)
		}
	}
	if k.Insert(pt(1, 0, 0)) != api.ErrDup || k.Insert(pt(2, 0, 0)) != api.OK || k.Insert(pt(3, 0, 0)) != api.ErrFull || k.Insert(pt(2, 0, 0)) != api.ErrDup || k.Insert(pt(0, 0, 0)) != api.ErrArg {
		t.Error("Insert")
	}
	if !k.Has(pt(2, 0, 0)) || k.Has(pt(3, 0, 0)) || k.Has(pt(1, 0, 1)) || k.Delete(pt(1, 1, 0)) != api.ErrNone || k.Len() != 2 {
		t.Error("Has")
	}
	if k.Delete(pt(1, 0, 0)) != api.OK || k.Delete(pt(1, 0, 0)) != api.ErrNone || k.Has(pt(1, 0, 0)) || k.Len() != 1 {
		t.Error("Delete")
	}
	if k.Insert(pt(1, 0, 0)) != api.OK || k.Insert(pt(4, 4, 4)) != api.ErrFull || !k.Has(pt(1, 0, 0)) {
		t.Error("again")
	}
}

func TestCorners(t *testing.T) {
	k := made(t, 9, pt(api.MaxID, far, far), pt(1, -far, -far), pt(1, far, -far), pt(1, -far, far))
	if l := k.Report(box.All()); !slices.Equal(l, []int{1, 1, 1, api.MaxID}) {
		t.Error(l)
	}
	if n := k.Count(api.Box{X1: math.MinInt, X2: math.MaxInt, Y1: far, Y2: math.MaxInt}); n != 2 {
		t.Error(n)
	}
}

func TestAgainstAModel(t *testing.T) {
	for seed := range uint32(6) {
		d := &dice{seed}
		most, wide := 40+d.roll(60), 4+d.roll(8)
		k, w := made(t, most), map[api.Point]bool{}
		for step := range 1500 {
			p := pt(1+d.roll(3), d.roll(wide), d.roll(wide))
			drops := 1 + step/300%3*2
			if d.roll(6) >= drops {
				e := api.OK
				if w[p] {
					e = api.ErrDup
				} else if len(w) == most {
					e = api.ErrFull
				} else {
					w[p] = true
				}
				if f := k.Insert(p); f != e {
					t.Fatal(step, p, f, e)
				}
			} else if f := k.Delete(p); (f == api.OK) != w[p] || f != api.OK && f != api.ErrNone {
				t.Fatal(step, p, f)
			} else {
				delete(w, p)
			}
			if k.Has(p) != w[p] {
				t.Fatal("Has", p)
			}
			if step%7 == 0 {
				look(t, k, w, d)
			}
		}
	}
}

func TestItStaysFlat(t *testing.T) {
	for _, f := range []func(i int) api.Point{
		func(i int) api.Point { return pt(i+1, i, i) },
		func(i int) api.Point { return pt(i+1, -i, 5) },
		func(i int) api.Point { return pt(i+1, 3, 3) },
		func(i int) api.Point { return pt(i+1, i%2, -i) },
	} {
		k := made(t, 3000)
		w := map[api.Point]bool{}
		for i := range 600 {
			k.Insert(f(i))
			w[f(i)] = true
			if k.Depth() > bound(k.Root().Size()) {
				t.Fatal(i, k.Depth())
			}
		}
		look(t, k, w, &dice{1})
		if k.Built() < 1 {
			t.Error("nothing was built anew", k.Built())
		}
		for i := 599; i >= 0; i-- {
			k.Delete(f(i))
			delete(w, f(i))
			if i%50 == 0 {
				look(t, k, w, &dice{2})
			}
		}
		if k.Len() != 0 || k.Count(box.All()) != 0 {
			t.Error("all gone")
		}
	}
}

func TestBound(t *testing.T) {
	for n := -3; n < 5000; n++ {
		if kd.Bound(n) != bound(n) {
			t.Fatal(n, kd.Bound(n))
		}
	}
	for n, w := range map[int]int{1: 2, 4: 5, math.MinInt: 0, 1 << 60: bound(1 << 60)} {
		if kd.Bound(n) != w {
			t.Error(n, kd.Bound(n))
		}
	}
	// 3 n may run over, the answer must not: it grows by one for a third more.
	if b := kd.Bound(math.MaxInt); b < kd.Bound(1<<61)+4 || b > kd.Bound(1<<61)+6 {
		t.Error(b)
	}
}

func TestComesAndGoes(t *testing.T) {
	l := []api.Point{pt(1, 0, 5), pt(2, 3, 1), pt(3, 3, 1), pt(4, 2, 2)}
	k := made(t, 9, l...)
	was := k.Report(box.All())
	for _, p := range []api.Point{pt(9, 0, 0), pt(1, 0, 4), pt(5, 3, 1)} {
		if k.Insert(p) != api.OK || k.Delete(p) != api.OK {
			t.Fatal(p)
		}
		if !slices.Equal(k.Report(box.All()), was) || k.Len() != 4 || k.Has(p) || k.Count(box.All()) != 4 || !k.Check() {
			t.Error(p)
		}
	}
}

func TestNil(t *testing.T) {
	var k *kd.Tree
	var n *kd.Node
	p, here := n.Point()
	if p != (api.Point{}) || here || len(n.Kids()) != 0 || n.Box() != (api.Box{}) || n.Size() != 0 {
		t.Error("node")
	}
	if k.Insert(pt(1, 0, 0)) != api.ErrArg || k.Delete(pt(1, 0, 0)) != api.ErrArg || k.Has(pt(1, 0, 0)) || k.Len() != 0 || k.Root() != nil ||
		len(k.Report(box.All())) != 0 || k.Count(box.All()) != 0 || k.Depth() != 0 || k.Built() != 0 || k.Check() {
		t.Error("tree")
	}
}
