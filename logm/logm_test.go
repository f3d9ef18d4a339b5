package logm_test

import (
	"math"
	"slices"
	"testing"

	"alidade/api"
	"alidade/box"
	"alidade/kern"
	"alidade/logm"
)

const far = api.MaxCoord

func pt(id, x, y int) api.Point { return api.Point{ID: id, X: x, Y: y} }

type dice struct{ n uint32 }

func (d *dice) roll(most int) int {
	d.n = d.n*1664525 + 1013904223
	return int(d.n>>12) % most
}

// model is what the document says of the trees, done plainly.
type model struct {
	trees [][]api.Point
	dead  map[api.Point]bool
	here  map[api.Point]bool
	built int
}

func (m *model) put(p api.Point) {
	l := []api.Point{p}
	for i := 0; ; i++ {
		if i == len(m.trees) {
			m.trees = append(m.trees, nil)
		}
		if len(m.trees[i]) == 0 {
			m.trees[i] = l
			m.built += len(l)
			return
		}
		l = append(l, m.trees[i]...)
		m.trees[i] = nil
	}
}

func (m *model) insert(p api.Point) {
	if m.dead[p] {
		delete(m.dead, p)
	} else {
		m.put(p)
	}
	m.here[p] = true
}

func (m *model) remove(p api.Point) {
	delete(m.here, p)
	m.dead[p] = true
	if len(m.dead) <= len(m.here) {
		return
	}
	var l []api.Point
	for q := range m.here {
		l = append(l, q)
	}
	slices.SortFunc(l, kern.Cmp)
	m.trees, m.dead = nil, map[api.Point]bool{}
	for _, q := range l {
		m.put(q)
	}
}

func idsIn(l map[api.Point]bool, b api.Box) []int {
	var ids []int
	for p := range l {
		if b.X1 <= p.X && p.X <= b.X2 && b.Y1 <= p.Y && p.Y <= b.Y2 {
			ids = append(ids, p.ID)
		}
	}
	slices.Sort(ids)
	return ids
}

func check(t *testing.T, s *logm.Set, m *model, d *dice) {
	t.Helper()
	var sizes []int
	for _, l := range m.trees {
		sizes = append(sizes, len(l))
	}
	if !slices.Equal(s.Sizes(), sizes) || s.Built() != m.built || s.Len() != len(m.here) || !s.Check() {
		t.Fatal("Sizes", s.Sizes(), sizes, s.Built(), m.built, s.Len(), len(m.here), s.Check())
	}
	i := 0
	for _, r := range s.Trees() {
		for len(m.trees[i]) == 0 {
			i++
		}
		w := slices.Clone(m.trees[i])
		slices.SortFunc(w, kern.Cmp)
		if i++; !slices.Equal(r.Points(), w) {
			t.Fatal("Trees", r.Points(), w)
		}
	}
	if i != len(m.trees) {
		t.Fatal("Trees", i, len(m.trees))
	}
	boxes := []api.Box{box.All(), {X1: 3, X2: 2, Y1: 0, Y2: 9}, {X1: math.MinInt, X2: math.MaxInt, Y1: math.MinInt, Y2: math.MaxInt}}
	for range 3 {
		x, y := d.roll(10), d.roll(10)
		boxes = append(boxes, api.Box{X1: x, X2: x + d.roll(6) - 1, Y1: y, Y2: y + d.roll(6) - 1})
	}
	for _, b := range boxes {
		ids := idsIn(m.here, b)
		if got := s.Report(b); !slices.Equal(got, ids) || s.Count(b) != len(ids) {
			t.Fatal("Report", b, got, ids, s.Count(b))
		}
		if got := s.Dead(b); !slices.Equal(got, idsIn(m.dead, b)) {
			t.Fatal("Dead", b, got)
		}
		var all []int
		for _, r := range s.Trees() {
			all = append(all, r.Report(b)...)
		}
		slices.Sort(all)
		for _, id := range s.Dead(b) {
			i := slices.Index(all, id)
			all = slices.Delete(all, i, i+1)
		}
		if !slices.Equal(all, ids) {
			t.Fatal("the trees, without the dead ones", b, all, ids)
		}
	}
}

func made(t *testing.T, most int, l ...api.Point) *logm.Set {
	t.Helper()
	s, e := logm.New(most)
	if s == nil || e != api.OK {
		t.Fatal(most, e)
	}
	for _, p := range l {
		if e := s.Insert(p); e != api.OK {
			t.Fatal(p, e)
		}
	}
	return s
}

func TestNew(t *testing.T) {
	for _, most := range []int{0, -1, api.MaxPool + 1, 1 << 62} {
		if s, e := logm.New(most); s != nil || e != api.ErrArg {
			t.Error(most, e)
		}
	}
	if one := made(t, 1, pt(1, 0, 0)); one.Insert(pt(2, 0, 0)) != api.ErrFull || one.Len() != 1 {
		t.Error("room for one")
	}
	s := made(t, api.MaxPool)
	check(t, s, &model{}, &dice{1})
	if s.Delete(pt(1, 0, 0)) != api.ErrNone || s.Has(pt(1, 0, 0)) {
		t.Error("empty")
	}
}

func TestErrors(t *testing.T) {
	s := made(t, 2, pt(1, 0, 0))
	for _, p := range []api.Point{pt(0, 1, 1), pt(-5, 1, 1), pt(api.MaxID+1, 1, 1), pt(1, far+1, 0), pt(1, 0, -far-1)} {
		if s.Insert(p) != api.ErrArg || s.Delete(p) != api.ErrNone || s.Has(p) {
			t.Error(p)
		}
	}
	if s.Insert(pt(1, 0, 0)) != api.ErrDup || s.Insert(pt(2, 0, 0)) != api.OK || s.Insert(pt(3, 0, 0)) != api.ErrFull || s.Insert(pt(2, 0, 0)) != api.ErrDup || s.Insert(pt(0, 0, 0)) != api.ErrArg {
		t.Error("Insert")
	}
	if s.Delete(pt(1, 1, 0)) != api.ErrNone || s.Delete(pt(1, 0, 0)) != api.OK || s.Delete(pt(1, 0, 0)) != api.ErrNone || s.Has(pt(1, 0, 0)) || s.Len() != 1 {
		t.Error("Delete")
	}
	if s.Insert(pt(3, 0, 0)) != api.OK || s.Insert(pt(1, 0, 0)) != api.ErrFull || s.Delete(pt(3, 0, 0)) != api.OK || s.Insert(pt(1, 0, 0)) != api.OK {
		t.Error("one that is dead takes no room, and comes again")
	}
}

func TestSizes(t *testing.T) {
	s := made(t, 100)
	for i := 1; i <= 64; i++ {
		s.Insert(pt(i, i, i))
		var w []int
		for k := 0; 1<<k <= i; k++ {
			w = append(w, i&(1<<k))
		}
		if got := s.Sizes(); !slices.Equal(got, w) {
			t.Fatal(i, got, w)
		}
	}
	if s := made(t, 9, pt(1, 0, 0), pt(2, 0, 0), pt(3, 0, 0)); !slices.Equal(s.Sizes(), []int{1, 2}) || s.Built() != 4 {
		t.Error("three points", s.Sizes(), s.Built())
	}
}

func TestAgainstAModel(t *testing.T) {
	for seed := range uint32(6) {
		d := &dice{seed}
		most, wide := 40+d.roll(60), 4+d.roll(8)
		s, m := made(t, most), &model{here: map[api.Point]bool{}, dead: map[api.Point]bool{}}
		for step := range 1500 {
			p := pt(1+d.roll(3), d.roll(wide), d.roll(wide))
			if drops := 1 + step/300%3*2; d.roll(6) >= drops {
				e := api.OK
				if m.here[p] {
					e = api.ErrDup
				} else if len(m.here) == most {
					e = api.ErrFull
				} else {
					m.insert(p)
				}
				if f := s.Insert(p); f != e {
					t.Fatal(step, p, f, e)
				}
			} else if f := s.Delete(p); (f == api.OK) != m.here[p] || f != api.OK && f != api.ErrNone {
				t.Fatal(step, p, f)
			} else if f == api.OK {
				m.remove(p)
			}
			if s.Has(p) != m.here[p] {
				t.Fatal("Has", p)
			}
			if step%5 == 0 {
				check(t, s, m, d)
			}
		}
	}
}

func TestAllGo(t *testing.T) {
	s, m := made(t, 50), &model{here: map[api.Point]bool{}, dead: map[api.Point]bool{}}
	for i := range 37 {
		s.Insert(pt(i+1, i*7%11, i))
		m.insert(pt(i+1, i*7%11, i))
	}
	for i := range 37 {
		s.Delete(pt(i+1, i*7%11, i))
		m.remove(pt(i+1, i*7%11, i))
		check(t, s, m, &dice{3})
	}
	if len(s.Sizes()) != 0 || len(s.Trees()) != 0 || len(s.Dead(box.All())) != 0 {
		t.Error("all gone", s.Sizes())
	}
}

func TestNothingIsShared(t *testing.T) {
	s := made(t, 50, pt(1, 0, 0), pt(2, 0, 0), pt(3, 0, 0), pt(4, 0, 0))
	s.Delete(pt(2, 0, 0))
	r := s.Trees()
	r[0] = nil
	sizes, dead, ids := s.Sizes(), s.Dead(box.All()), s.Report(box.All())
	sizes[0], dead[0], ids[0] = 9, 9, 9
	if s.Trees()[0] == nil || !slices.Equal(s.Sizes(), []int{0, 0, 4}) || !slices.Equal(s.Dead(box.All()), []int{2}) || !slices.Equal(s.Report(box.All()), []int{1, 3, 4}) {
		t.Error("shared")
	}
}

func TestNil(t *testing.T) {
	var s *logm.Set
	if s.Insert(pt(1, 0, 0)) != api.ErrArg || s.Delete(pt(1, 0, 0)) != api.ErrArg || s.Has(pt(1, 0, 0)) || s.Len() != 0 || len(s.Report(box.All())) != 0 || s.Count(box.All()) != 0 ||
		len(s.Trees()) != 0 || len(s.Dead(box.All())) != 0 || len(s.Sizes()) != 0 || s.Built() != 0 || s.Check() {
		t.Error("nil")
	}
}
