package itree_test

import (
	"math"
	"slices"
	"testing"

	"alidade/api"
	"alidade/itree"
)

const far = api.MaxCoord

func sp(id, lo, hi int) api.Span { return api.Span{ID: id, Lo: lo, Hi: hi} }

type dice struct{ n uint32 }

func (d *dice) roll(most int) int {
	d.n = d.n*1664525 + 1013904223
	return int(d.n>>12) % most
}

func idsOn(has map[api.Span]bool, lo, hi int) []int {
	var ids []int
	for s := range has {
		if lo <= hi && s.Lo <= hi && lo <= s.Hi {
			ids = append(ids, s.ID)
		}
	}
	slices.Sort(ids)
	return ids
}

func made(t *testing.T, most int, l ...api.Span) *itree.Tree {
	t.Helper()
	k, e := itree.New(most)
	if k == nil || e != api.OK {
		t.Fatal(most, e)
	}
	for _, s := range l {
		if e := k.Insert(s); e != api.OK {
			t.Fatal(s, e)
		}
	}
	return k
}

// shape looks at all nodes from n on down: how many levels, how many own intervals a node has; and whether all stands as it should.
func shape(t *testing.T, n *itree.Node) (depth, size int) {
	t.Helper()
	if n == nil {
		return 0, 0
	}
	ids, kids := n.Look(-far-1, far+1)
	if !slices.IsSorted(ids) || len(kids) > 2 || len(ids) == 0 && len(kids) < 2 {
		t.Fatal("a node has an interval, or two kids", ids, len(kids))
	}
	size = len(ids)
	for _, kid := range kids {
		d, s := shape(t, kid)
		if s > n.Size()*3/4 {
			t.Fatal("leans", s, n.Size())
		}
		depth, size = max(depth, d), size+s
	}
	if n.Size() != size {
		t.Fatal("Size", n.Size(), size)
	}
	if ids, next := n.Look(3, 2); len(ids) != 0 || len(next) != 0 {
		t.Fatal("Look turned")
	}
	for x := range 12 {
		if _, next := n.Look(x, x); len(next) > 1 {
			t.Fatal("one number lies on one side", x)
		}
	}
	return depth + 1, size
}

// seek finds by Look alone.
func seek(n *itree.Node, lo, hi int) []int {
	ids, next := n.Look(lo, hi)
	for _, kid := range next {
		ids = append(ids, seek(kid, lo, hi)...)
	}
	return ids
}

func check(t *testing.T, k *itree.Tree, has map[api.Span]bool, d *dice) {
	t.Helper()
	depth, size := shape(t, k.Root())
	if k.Len() != len(has) || size != len(has) || k.Depth() != depth || !k.Check() {
		t.Fatal("shape", k.Len(), size, len(has), depth, k.Depth(), k.Check())
	}
	asks := [][2]int{{-far, far}, {5, 4}, {math.MinInt, math.MaxInt}, {math.MaxInt, math.MinInt}, {math.MinInt, 3}, {6, math.MaxInt}}
	for range 6 {
		lo := d.roll(14) - 1
		asks = append(asks, [2]int{lo, lo + d.roll(6) - 1})
	}
	for _, q := range asks {
		ids := idsOn(has, q[0], q[1])
		got := seek(k.Root(), q[0], q[1])
		slices.Sort(got)
		if l := k.Overlap(q[0], q[1]); !slices.Equal(l, ids) || k.Count(q[0], q[1]) != len(ids) || !slices.Equal(got, ids) {
			t.Fatal("Overlap", q, l, ids, got)
		}
		if l := k.Stab(q[0]); !slices.Equal(l, idsOn(has, q[0], q[0])) || !slices.Equal(l, k.Overlap(q[0], q[0])) {
			t.Fatal("Stab", q[0], l)
		}
	}
}

func TestNew(t *testing.T) {
	for _, most := range []int{0, -1, api.MaxPool + 1, 1 << 62} {
		if k, e := itree.New(most); k != nil || e != api.ErrArg {
			t.Error(most, e)
		}
	}
	if one := made(t, 1, sp(1, 0, 0)); one.Insert(sp(2, 0, 0)) != api.ErrFull || one.Len() != 1 {
		t.Error("room for one")
	}
	k := made(t, api.MaxPool)
	check(t, k, nil, &dice{1})
	if k.Root() != nil || k.Delete(sp(1, 0, 0)) != api.ErrNone || k.Has(sp(1, 0, 0)) {
		t.Error("empty")
	}
}

func TestErrors(t *testing.T) {
	k := made(t, 2, sp(1, 0, 3))
	for _, s := range []api.Span{sp(0, 1, 1), sp(-5, 1, 1), sp(api.MaxID+1, 1, 1), sp(1, 3, 0), sp(1, 0, far+1), sp(1, -far-1, 0), sp(1, math.MaxInt, math.MinInt)} {
		if k.Insert(s) != api.ErrArg || k.Delete(s) != api.ErrNone || k.Has(s) {
			t.Error(s)
		}
	}
	if k.Insert(sp(1, 0, 3)) != api.ErrDup || k.Insert(sp(2, 0, 3)) != api.OK || k.Insert(sp(3, 0, 3)) != api.ErrFull || k.Insert(sp(2, 0, 3)) != api.ErrDup || k.Insert(sp(0, 0, 3)) != api.ErrArg {
		t.Error("Insert")
	}
	if !k.Has(sp(2, 0, 3)) || k.Has(sp(3, 0, 3)) || k.Has(sp(1, 0, 2)) || k.Delete(sp(1, 1, 3)) != api.ErrNone || k.Len() != 2 {
		t.Error("Has")
	}
	if k.Delete(sp(1, 0, 3)) != api.OK || k.Delete(sp(1, 0, 3)) != api.ErrNone || k.Len() != 1 || k.Insert(sp(5, 9, 9)) != api.OK {
		t.Error("Delete")
	}
}

func TestExample(t *testing.T) {
	k := made(t, 5, sp(1, 0, 5), sp(2, 4, 9))
	if l := k.Stab(4); !slices.Equal(l, []int{1, 2}) {
		t.Error(l)
	}
	if l := k.Overlap(6, 7); !slices.Equal(l, []int{2}) {
		t.Error(l)
	}
	k = made(t, 5, sp(1, -far, far), sp(2, far, far), sp(3, -far, -far), sp(api.MaxID, 0, 0))
	if l := k.Overlap(-far, far); !slices.Equal(l, []int{1, 2, 3, api.MaxID}) || !slices.Equal(k.Stab(far), []int{1, 2}) {
		t.Error(l)
	}
}

func TestLookInOrder(t *testing.T) {
	// Ids rise as the intervals do: what lies on the lower side has lower ones.
	k := made(t, 50)
	for i := range 40 {
		id := 1 + i*17%40
		k.Insert(sp(id, 10*id, 10*id+3))
	}
	both := 0
	var walk func(n *itree.Node)
	walk = func(n *itree.Node) {
		_, next := n.Look(-far, far)
		if len(next) == 2 {
			both++
			if slices.Max(seek(next[0], -far, far)) > slices.Min(seek(next[1], -far, far)) {
				t.Error("the lower side first")
			}
		}
		for _, kid := range next {
			walk(kid)
		}
	}
	walk(k.Root())
	if both == 0 {
		t.Error("no node with two sides")
	}
	ids := k.Stab(100)
	if !slices.Equal(ids, []int{10}) {
		t.Fatal(ids)
	}
	ids[0] = 99
	if ids := k.Stab(100); !slices.Equal(ids, []int{10}) {
		t.Error("shared")
	}
}

func TestAgainstAModel(t *testing.T) {
	for seed := range uint32(6) {
		d := &dice{seed}
		most, wide := 40+d.roll(60), 6+d.roll(8)
		k, has := made(t, most), map[api.Span]bool{}
		for step := range 1500 {
			lo := d.roll(wide)
			s := sp(1+d.roll(3), lo, lo+d.roll(1+d.roll(5)))
			if drops := 1 + step/300%3*2; d.roll(6) >= drops {
				e := api.OK
				if has[s] {
					e = api.ErrDup
				} else if len(has) == most {
					e = api.ErrFull
				} else {
					has[s] = true
				}
				if f := k.Insert(s); f != e {
					t.Fatal(step, s, f, e)
				}
			} else if f := k.Delete(s); (f == api.OK) != has[s] || f != api.OK && f != api.ErrNone {
				t.Fatal(step, s, f)
			} else {
				delete(has, s)
			}
			if k.Has(s) != has[s] {
				t.Fatal("Has", s)
			}
			if step%5 == 0 {
				check(t, k, has, d)
			}
		}
	}
}

func TestMiddlesThatStabNothing(t *testing.T) {
	// Intervals that lie apart, and go one by one: nodes are left with two kids, or one, or none.
	for seed := range uint32(30) {
		d := &dice{seed}
		n := 2 + d.roll(40)
		k, has := made(t, 100), map[api.Span]bool{}
		var l []api.Span
		for i := range n {
			l = append(l, sp(i+1, 10*i, 10*i+d.roll(4)))
		}
		for len(l) > 0 {
			i := d.roll(len(l))
			if d.roll(9) > 0 && k.Insert(l[i]) == api.OK {
				has[l[i]] = true
			} else if has[l[i]] {
				k.Delete(l[i])
				delete(has, l[i])
				if d.roll(4) == 0 {
					l = slices.Delete(l, i, i+1)
				}
			}
			if k.Len() == n || len(has) < 6 || d.roll(8) == 0 {
				check(t, k, has, d)
			}
		}
	}
	for n := 2; n < 40; n++ {
		k, has := made(t, 100), map[api.Span]bool{}
		for i := range n {
			s := sp(i+1, 10*i, 10*i+3)
			k.Insert(s)
			has[s] = true
		}
		// From the middle outwards.
		for i := range n {
			at := n/2 + (i+1)/2*(1-i%2*2)
			at = max(0, min(n-1, at))
			s := sp(at+1, 10*at, 10*at+3)
			if (k.Delete(s) == api.OK) != has[s] {
				t.Fatal("Delete", s)
			}
			delete(has, s)
			check(t, k, has, &dice{uint32(n)})
		}
	}
}

func TestItStaysFlat(t *testing.T) {
	for _, f := range []func(i int) api.Span{
		func(i int) api.Span { return sp(i+1, i, i) },
		func(i int) api.Span { return sp(i+1, -3*i, -3*i+1) },
		func(i int) api.Span { return sp(i+1, -i, i) },
		func(i int) api.Span { return sp(i+1, i, i+5) },
	} {
		k, has := made(t, 3000), map[api.Span]bool{}
		for i := range 300 {
			k.Insert(f(i))
			has[f(i)] = true
			if i%25 == 0 {
				check(t, k, has, &dice{1})
			}
		}
		if k.Depth() > 22 {
			t.Error("Depth", k.Depth())
		}
		for i := range 300 {
			k.Delete(f(i))
			delete(has, f(i))
			if i%25 == 0 || i > 280 {
				check(t, k, has, &dice{2})
			}
		}
	}
}

func TestComesAndGoes(t *testing.T) {
	k := made(t, 9, sp(1, 0, 5), sp(2, 3, 10), sp(3, 3, 10), sp(4, 20, 22))
	was := k.Overlap(-far, far)
	for _, s := range []api.Span{sp(9, 0, 0), sp(1, 0, 4), sp(5, 30, 90), sp(5, 3, 10)} {
		if k.Insert(s) != api.OK || k.Delete(s) != api.OK {
			t.Fatal(s)
		}
		if !slices.Equal(k.Overlap(-far, far), was) || k.Len() != 4 || k.Has(s) || k.Count(-far, far) != 4 || !slices.Equal(k.Stab(4), []int{1, 2, 3}) || !k.Check() {
			t.Error(s)
		}
	}
}

func TestNil(t *testing.T) {
	var k *itree.Tree
	var n *itree.Node
	ids, next := n.Look(0, 1)
	if len(ids) != 0 || len(next) != 0 || n.Size() != 0 {
		t.Error("node")
	}
	if k.Insert(sp(1, 0, 0)) != api.ErrArg || k.Delete(sp(1, 0, 0)) != api.ErrArg || k.Has(sp(1, 0, 0)) || k.Len() != 0 || k.Root() != nil ||
		len(k.Stab(0)) != 0 || len(k.Overlap(0, 1)) != 0 || k.Count(0, 1) != 0 || k.Depth() != 0 || k.Check() {
		t.Error("tree")
	}
}
