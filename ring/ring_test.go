package ring_test

import (
	"slices"
	"testing"

	"alidade/api"
	"alidade/ring"
)

func TestNew(t *testing.T) {
	for _, most := range []int{0, -1, api.MaxStack + 1, 1 << 62} {
		if r, e := ring.New[int](most); r != nil || e != api.ErrArg {
			t.Error(most, e)
		}
	}
	for _, most := range []int{1, 5, api.MaxStack} {
		if r, e := ring.New[int](most); r == nil || e != api.OK || r.Len() != 0 || len(r.All()) != 0 {
			t.Error(most, e)
		}
	}
}

func TestOrder(t *testing.T) {
	r, _ := ring.New[int](3)
	if r.Push(7) != api.OK || r.Push(8) != api.OK || r.Push(7) != api.ErrDup || r.Push(9) != api.OK {
		t.Error("Push")
	}
	if r.Push(10) != api.ErrFull || r.Push(9) != api.ErrDup {
		t.Error("who waits comes ahead of what is full")
	}
	if p, ok := r.Place(9); p != 2 || !ok {
		t.Error(p, ok)
	}
	if !r.Drop(7) || r.Drop(7) {
		t.Error("Drop")
	}
	if v, ok := r.Head(); v != 8 || !ok || r.Len() != 2 {
		t.Error(v, ok)
	}
	if v, ok := r.Pop(); v != 8 || !ok {
		t.Error(v, ok)
	}
}

func TestAgainstAModel(t *testing.T) {
	for _, most := range []int{1, 2, 5, 9} {
		r, _ := ring.New[int](most)
		var w []int
		seed := uint32(most)
		for step := 0; step < 4000; step++ {
			seed = seed*1664525 + 1013904223
			v := int(seed>>16) % (most + 3)
			switch (seed >> 28) % 5 {
			case 0, 1, 2:
				e := api.OK
				if slices.Contains(w, v) {
					e = api.ErrDup
				} else if len(w) == most {
					e = api.ErrFull
				} else {
					w = append(w, v)
				}
				if f := r.Push(v); f != e {
					t.Fatal(step, v, f, e)
				}
			case 3:
				h, there := r.Head()
				x, ok := r.Pop()
				if ok != (len(w) > 0) || there != ok || h != x || ok && x != w[0] || !ok && x != 0 {
					t.Fatal(step, x, ok, w)
				}
				if ok {
					w = w[1:]
				}
			case 4:
				i := slices.Index(w, v)
				if ok := r.Drop(v); ok != (i >= 0) {
					t.Fatal(step, v, ok)
				}
				if i >= 0 {
					w = slices.Delete(slices.Clone(w), i, i+1)
				}
			}
			if r.Len() != len(w) || !slices.Equal(r.All(), w) {
				t.Fatal(step, r.All(), w)
			}
			for v := -1; v < most+4; v++ {
				p, ok := r.Place(v)
				if i := slices.Index(w, v); ok != (i >= 0) || p != max(i, 0) {
					t.Fatal("Place", step, v, p, ok, w)
				}
			}
			for i, l := 0, r.All(); i < len(l); i++ {
				l[i] = -7
			}
		}
	}
}

func TestWhoWaitsComesNearer(t *testing.T) {
	r, _ := ring.New[string](20)
	for _, v := range []string{"a", "b", "c", "d", "e"} {
		r.Push(v)
	}
	last := 5
	for _, v := range []string{"x", "y", "z", "w"} {
		p, ok := r.Place("e")
		if !ok || p != last-1 {
			t.Fatal(p, ok)
		}
		last = p
		r.Push(v)
		r.Pop()
	}
}

func TestManyWait(t *testing.T) {
	r, _ := ring.New[int](2000)
	for i := range 2000 {
		if r.Push(i) != api.OK {
			t.Fatal(i)
		}
	}
	if r.Push(-1) != api.ErrFull {
		t.Error("full")
	}
	for i := range 2000 {
		if v, ok := r.Pop(); v != i || !ok {
			t.Fatal(v, ok)
		}
	}
}

func TestWhatCannotBeCompared(t *testing.T) {
	r, _ := ring.New[any](5)
	for i := 0; i < 3; i++ {
		r.Push([]int{i})
		r.Drop([]int{i})
		r.Place(map[int]int{})
	}
}

func TestNil(t *testing.T) {
	var r *ring.Ring[int]
	v, ok := r.Pop()
	w, fine := r.Head()
	p, there := r.Place(0)
	if v != 0 || ok || w != 0 || fine || p != 0 || there || r.Push(1) != api.ErrArg || r.Drop(0) || r.Len() != 0 || len(r.All()) != 0 {
		t.Error("nil")
	}
}
