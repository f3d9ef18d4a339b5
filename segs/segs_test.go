package segs_test

import (
	"math"
	"slices"
	"testing"

	"alidade/api"
	"alidade/segs"
)

const far = api.MaxCoord

func sp(id, lo, hi int) api.Span { return api.Span{ID: id, Lo: lo, Hi: hi} }

type dice struct{ n uint32 }

func (d *dice) roll(most int) int {
	d.n = d.n*1664525 + 1013904223
	return int(d.n>>12) % most
}

// model is what the document says of the numbers, done plainly.
type model struct {
	has     map[api.Span]bool
	numbers []int
	built   int
}

func (m *model) set(l []int) {
	m.numbers = slices.Compact(slices.Sorted(slices.Values(l)))
	m.built++
}

func (m *model) insert(s api.Span) {
	m.has[s] = true
	if !slices.Contains(m.numbers, s.Lo) || !slices.Contains(m.numbers, s.Hi) {
		m.set(append(slices.Clone(m.numbers), s.Lo, s.Hi))
	}
}

func (m *model) remove(s api.Span) {
	delete(m.has, s)
	if len(m.numbers) > 4*len(m.has)+4 {
		var l []int
		for u := range m.has {
			l = append(l, u.Lo, u.Hi)
		}
		m.set(l)
	}
}

func (m *model) cell(x int) int {
	i, ok := slices.BinarySearch(m.numbers, x)
	if ok {
		return 2*i + 1
	}
	return 2 * i
}

func (m *model) ids(in func(s api.Span) bool) []int {
	var ids []int
	for s := range m.has {
		if in(s) {
			ids = append(ids, s.ID)
		}
	}
	slices.Sort(ids)
	return ids
}

// shape looks at a node of the cells from to to, whose father has all of those from up to upTo, and at all below.
func shape(t *testing.T, m *model, n *segs.Node, from, to, up, upTo int) {
	t.Helper()
	if a, b := n.Cells(); n == nil || a != from || b != to {
		t.Fatal("Cells", a, b, from, to)
	}
	w := m.ids(func(s api.Span) bool {
		a, b := m.cell(s.Lo), m.cell(s.Hi)
		return a <= from && to <= b && !(a <= up && upTo <= b)
	})
	for _, cell := range []int{from - 1, to + 1, math.MinInt, math.MaxInt} {
		if ids, next := n.Look(cell); len(ids) != 0 || next != nil {
			t.Fatal("a cell it does not have", cell)
		}
	}
	half := from + (to-from+2)/2 - 1
	var kids [2]*segs.Node
	for cell := from; cell <= to; cell++ {
		ids, next := n.Look(cell)
		if !slices.Equal(ids, w) || (next == nil) != (from == to) {
			t.Fatal("Look", cell, ids, w, next)
		}
		side := 0
		if cell > half {
			side = 1
		}
		if kids[side] != nil && kids[side] != next {
			t.Fatal("another kid", cell)
		}
		kids[side] = next
		if len(ids) > 0 {
			ids[0] = -1
		}
	}
	if from < to {
		shape(t, m, kids[0], from, half, from, to)
		shape(t, m, kids[1], half+1, to, from, to)
	}
}

func check(t *testing.T, k *segs.Tree, m *model, d *dice) {
	t.Helper()
	if k.Len() != len(m.has) || k.Ends() != len(m.numbers) || k.Built() != m.built || !k.Check() {
		t.Fatal("numbers", k.Len(), len(m.has), k.Ends(), len(m.numbers), k.Built(), m.built, k.Check())
	}
	shape(t, m, k.Root(), 0, 2*len(m.numbers), -1, 2*len(m.numbers)+1)
	asks := [][2]int{{-far, far}, {5, 4}, {math.MinInt, math.MaxInt}, {math.MaxInt, math.MinInt}, {math.MinInt, 3}, {6, math.MaxInt}}
	for range 6 {
		lo := d.roll(14) - 1
		asks = append(asks, [2]int{lo, lo + d.roll(6) - 1})
	}
	for _, q := range asks {
		lo, hi := q[0], q[1]
		if l := k.Overlap(lo, hi); !slices.Equal(l, m.ids(func(s api.Span) bool { return lo <= hi && s.Lo <= hi && lo <= s.Hi })) {
			t.Fatal("Overlap", q, l)
		}
		stabbed := m.ids(func(s api.Span) bool { return s.Lo <= lo && lo <= s.Hi })
		if l := k.Stab(lo); !slices.Equal(l, stabbed) {
			t.Fatal("Stab", lo, l)
		}
		if l := k.Begins(lo, hi); !slices.Equal(l, m.ids(func(s api.Span) bool { return lo < s.Lo && s.Lo <= hi })) {
			t.Fatal("Begins", q, l)
		}
		if k.Cell(lo) != m.cell(lo) {
			t.Fatal("Cell", lo, k.Cell(lo))
		}
		var way []int
		for n := k.Root(); n != nil; {
			ids, next := n.Look(k.Cell(lo))
			way, n = append(way, ids...), next
		}
		slices.Sort(way)
		both := append(slices.Clone(way), k.Begins(lo, hi)...)
		slices.Sort(both)
		if !slices.Equal(way, stabbed) || lo <= hi && !slices.Equal(both, k.Overlap(lo, hi)) {
			t.Fatal("the way to the cell", lo, way)
		}
	}
}

func made(t *testing.T, most int, l ...api.Span) *segs.Tree {
	t.Helper()
	k, e := segs.New(most)
	if k == nil || e != api.OK {
		t.Fatal(most, e)
	}
	for _, s := range l {
		if e := k.Insert(s); e != api.OK {
			t.Fatal(s, e)
		}
	}
	return k
}

func TestNew(t *testing.T) {
	for _, most := range []int{0, -1, api.MaxPool + 1, 1 << 62} {
		if k, e := segs.New(most); k != nil || e != api.ErrArg {
			t.Error(most, e)
		}
	}
	if one := made(t, 1, sp(1, 0, 0)); one.Insert(sp(2, 0, 0)) != api.ErrFull || one.Len() != 1 {
		t.Error("room for one")
	}
	k := made(t, api.MaxPool)
	check(t, k, &model{}, &dice{1})
	if from, to := k.Root().Cells(); from != 0 || to != 0 || k.Delete(sp(1, 0, 0)) != api.ErrNone || k.Has(sp(1, 0, 0)) {
		t.Error("empty")
	}
}

func TestErrors(t *testing.T) {
	k := made(t, 2, sp(1, 0, 3))
	for _, s := range []api.Span{sp(0, 1, 1), sp(-5, 1, 1), sp(api.MaxID+1, 1, 1), sp(1, 3, 0), sp(1, 0, far+1), sp(1, -far-1, 0), sp(1, math.MaxInt, math.MinInt)} {
		if k.Insert(s) != api.ErrArg || k.Delete(s) != api.ErrNone || k.Has(s) {
			t.Error(s)
		}
	}
	if k.Insert(sp(1, 0, 3)) != api.ErrDup || k.Insert(sp(2, 0, 3)) != api.OK || k.Insert(sp(3, 0, 3)) != api.ErrFull || k.Insert(sp(2, 0, 3)) != api.ErrDup || k.Insert(sp(0, 0, 3)) != api.ErrArg {
		t.Error("Insert")
	}
	if !k.Has(sp(2, 0, 3)) || k.Has(sp(3, 0, 3)) || k.Has(sp(1, 0, 2)) || k.Delete(sp(1, 1, 3)) != api.ErrNone || k.Len() != 2 || k.Built() != 1 || k.Ends() != 2 {
		t.Error("Has")
	}
	if k.Delete(sp(1, 0, 3)) != api.OK || k.Delete(sp(1, 0, 3)) != api.ErrNone || k.Len() != 1 || k.Insert(sp(5, 9, 9)) != api.OK {
		t.Error("Delete")
	}
}

func TestExample(t *testing.T) {
	k := made(t, 5, sp(1, 0, 5), sp(2, 4, 9))
	if l := k.Stab(4); k.Ends() != 4 || !slices.Equal(l, []int{1, 2}) || k.Built() != 2 {
		t.Error(k.Ends(), l)
	}
	k = made(t, 5, sp(1, -far, far), sp(2, far, far), sp(3, -far, -far), sp(api.MaxID, 0, 0))
	if l := k.Overlap(-far, far); !slices.Equal(l, []int{1, 2, 3, api.MaxID}) || !slices.Equal(k.Stab(far), []int{1, 2}) {
		t.Error(l)
	}
}

func TestAgainstAModel(t *testing.T) {
	for seed := range uint32(6) {
		d := &dice{seed}
		most, wide := 20+d.roll(40), 8+d.roll(30)
		k, m := made(t, most), &model{has: map[api.Span]bool{}}
		for step := range 1500 {
			lo := d.roll(wide)
			s := sp(1+d.roll(3), lo, lo+d.roll(1+d.roll(5)))
			if drops := 1 + step/300%3*2; d.roll(6) >= drops {
				e := api.OK
				if m.has[s] {
					e = api.ErrDup
				} else if len(m.has) == most {
					e = api.ErrFull
				} else {
					m.insert(s)
				}
				if f := k.Insert(s); f != e {
					t.Fatal(step, s, f, e)
				}
			} else if f := k.Delete(s); (f == api.OK) != m.has[s] || f != api.OK && f != api.ErrNone {
				t.Fatal(step, s, f)
			} else if f == api.OK {
				m.remove(s)
			}
			if k.Has(s) != m.has[s] {
				t.Fatal("Has", s)
			}
			if step%5 == 0 || step%60 < 4 {
				check(t, k, m, d)
			}
		}
	}
}

func TestAllGo(t *testing.T) {
	k, m := made(t, 50), &model{has: map[api.Span]bool{}}
	for i := range 30 {
		s := sp(i+1, 10*i, 10*i+3)
		k.Insert(s)
		m.insert(s)
	}
	for i := range 30 {
		s := sp(i+1, 10*i, 10*i+3)
		k.Delete(s)
		m.remove(s)
		check(t, k, m, &dice{7})
	}
	if k.Ends() > 4 {
		t.Error("Ends", k.Ends())
	}
}

func TestWhenNumbersAreTooMany(t *testing.T) {
	for many := 5; many < 40; many++ {
		k, m := made(t, 50), &model{has: map[api.Span]bool{}}
		var l []api.Span
		for i := 0; i < many; i += 2 {
			s := sp(i+1, 10*i, 10*i+10)
			if i == many-1 {
				s.Hi = s.Lo
			}
			l = append(l, s)
			k.Insert(s)
			m.insert(s)
		}
		if k.Ends() != many {
			t.Fatal("Ends", k.Ends(), many)
		}
		for _, s := range l {
			k.Delete(s)
			m.remove(s)
			check(t, k, m, &dice{7})
		}
	}
}

func TestNothingIsShared(t *testing.T) {
	k := made(t, 50, sp(1, 0, 5), sp(2, 4, 9), sp(3, 1, 7))
	for range 2 {
		a, b, c := k.Stab(4), k.Overlap(0, 9), k.Begins(-1, 9)
		if !slices.Equal(a, []int{1, 2, 3}) || !slices.Equal(b, []int{1, 2, 3}) || !slices.Equal(c, []int{1, 2, 3}) {
			t.Error(a, b, c)
		}
		a[0], b[0], c[0] = -1, -1, -1
	}
}

func TestNil(t *testing.T) {
	var k *segs.Tree
	var n *segs.Node
	ids, next := n.Look(0)
	if from, to := n.Cells(); len(ids) != 0 || next != nil || from != 0 || to != 0 {
		t.Error("node")
	}
	if k.Insert(sp(1, 0, 0)) != api.ErrArg || k.Delete(sp(1, 0, 0)) != api.ErrArg || k.Has(sp(1, 0, 0)) || k.Len() != 0 || k.Root() != nil || k.Cell(5) != 0 ||
		len(k.Begins(0, 1)) != 0 || len(k.Stab(0)) != 0 || len(k.Overlap(0, 1)) != 0 || k.Ends() != 0 || k.Built() != 0 || k.Check() {
		t.Error("tree")
	}
}
