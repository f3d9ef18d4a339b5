package stack_test

import (
	"slices"
	"testing"

	"alidade/api"
	"alidade/stack"
)

func made(t *testing.T, most int, l ...int) *stack.Stack[int] {
	t.Helper()
	s, e := stack.New[int](most)
	if s == nil || e != api.OK || s.Push(l...) != api.OK {
		t.Fatal(most, e)
	}
	return s
}

// rest pops all, the uppermost first.
func rest(s *stack.Stack[int]) []int {
	var l []int
	for {
		v, ok := s.Pop()
		if !ok {
			return l
		}
		l = append(l, v)
	}
}

func TestNew(t *testing.T) {
	for _, most := range []int{0, -1, api.MaxStack + 1, 1 << 62} {
		if s, e := stack.New[int](most); s != nil || e != api.ErrArg {
			t.Error(most, e)
		}
	}
	made(t, 1)
	s := made(t, api.MaxStack)
	if s.Push(make([]int, api.MaxStack+1)...) != api.ErrFull || s.Len() != 0 || s.Push(make([]int, api.MaxStack)...) != api.OK || s.Push(1) != api.ErrFull || s.Len() != api.MaxStack {
		t.Error("room")
	}
}

func TestPushAndPop(t *testing.T) {
	s := made(t, 3)
	if v, ok := s.Pop(); v != 0 || ok {
		t.Error(v, ok)
	}
	if v, ok := s.Top(); v != 0 || ok {
		t.Error(v, ok)
	}
	l := []int{1, 2}
	if s.Push(l...) != api.OK || s.Len() != 2 {
		t.Error("Push")
	}
	l[1] = 9
	if s.Push(7, 8) != api.ErrFull || s.Len() != 2 {
		t.Error("nothing is pushed")
	}
	if s.Push() != api.OK {
		t.Error("nothing fits")
	}
	if v, ok := s.Top(); v != 2 || !ok || s.Len() != 2 {
		t.Error(v, ok)
	}
	if s.Push(3) != api.OK || s.Push() != api.OK || s.Push(4) != api.ErrFull {
		t.Error("full")
	}
	if l := rest(s); !slices.Equal(l, []int{3, 2, 1}) || s.Len() != 0 {
		t.Error(l)
	}
}

func TestClearAndClone(t *testing.T) {
	s := made(t, 3, 1, 2)
	c := s.Clone()
	c.Pop()
	c.Push(5)
	s.Push(3)
	if c.Push(6) != api.OK || c.Push(7) != api.ErrFull {
		t.Error("room")
	}
	if a, b := rest(s), rest(c); !slices.Equal(a, []int{3, 2, 1}) || !slices.Equal(b, []int{6, 5, 1}) {
		t.Error(a, b)
	}
	s.Push(1, 2)
	s.Clear()
	if s.Len() != 0 || s.Push(4, 5, 6) != api.OK || s.Push(7) != api.ErrFull {
		t.Error("Clear")
	}
}

// leads is a tree: 1 leads to 2 and 3, 2 to 4 and 5, and so on, up to 15.
func leads(v int) []int {
	if v >= 8 {
		return nil
	}
	return []int{2 * v, 2*v + 1}
}

func TestWalk(t *testing.T) {
	var seen []int
	visit := func(v int) []int { seen = append(seen, v); return leads(v) }
	if n, e := stack.Walk(made(t, 20, 1), 100, visit); n != 15 || e != api.OK {
		t.Error(n, e)
	}
	whole := slices.Clone(seen)
	if !slices.Equal(whole, []int{1, 2, 4, 8, 9, 5, 10, 11, 3, 6, 12, 13, 7, 14, 15}) {
		t.Error(whole)
	}
	for part := 1; part < 17; part++ {
		seen = nil
		s := made(t, 20, 1)
		for s.Len() > 0 {
			left := 15 - len(seen)
			if n, e := stack.Walk(s, part, visit); n != min(part, left) || e != api.OK {
				t.Fatal(part, n, e)
			}
		}
		if !slices.Equal(seen, whole) {
			t.Error(part, seen)
		}
	}
	if n, e := stack.Walk(made(t, 20, 1), 0, visit); n != 0 || e != api.OK {
		t.Error("no steps", n, e)
	}
	if n, e := stack.Walk(made(t, 20), 5, visit); n != 0 || e != api.OK {
		t.Error("no elements", n, e)
	}
}

func TestWalkOfWhatIsFull(t *testing.T) {
	s := made(t, 3, 7, 1)
	var seen []int
	n, e := stack.Walk(s, 100, func(v int) []int {
		seen = append(seen, v)
		if v == 2 {
			return []int{20, 21, 22}
		}
		return leads(v)
	})
	if n != 2 || e != api.ErrFull || !slices.Equal(seen, []int{1, 2}) {
		t.Error(n, e, seen)
	}
	if l := rest(s); !slices.Equal(l, []int{3, 7}) {
		t.Error(l)
	}
}

func TestWrongWalk(t *testing.T) {
	s := made(t, 3, 1)
	none := func(v int) []int { return nil }
	if n, e := stack.Walk(nil, 1, none); n != 0 || e != api.ErrArg {
		t.Error(n, e)
	}
	if n, e := stack.Walk(s, 1, nil); n != 0 || e != api.ErrArg {
		t.Error(n, e)
	}
	if n, e := stack.Walk(s, -1, none); n != 0 || e != api.ErrArg || s.Len() != 1 {
		t.Error(n, e)
	}
	stack.Walk(s, 1, func(v int) []int { panic("no") })
	told := []int{4, 5}
	s = made(t, 9, 1)
	stack.Walk(s, 1, func(v int) []int { return told })
	told[0] = 9
	if l := rest(s); !slices.Equal(l, []int{4, 5}) {
		t.Error(l)
	}
}

func TestNil(t *testing.T) {
	var s *stack.Stack[int]
	v, ok := s.Pop()
	w, fine := s.Top()
	s.Clear()
	if v != 0 || ok || w != 0 || fine || s.Push(1) != api.ErrArg || s.Push() != api.ErrArg || s.Len() != 0 || s.Clone() != nil {
		t.Error("nil")
	}
}
