package queue_test

import (
	"slices"
	"testing"

	"alidade/api"
	"alidade/queue"
)

func made(t *testing.T, most int) *queue.Queue {
	t.Helper()
	q, e := queue.New(most)
	if q == nil || e != api.OK {
		t.Fatal(most, e)
	}
	return q
}

func TestNew(t *testing.T) {
	for _, most := range []int{0, -1, api.MaxStack + 1, 1 << 62} {
		if q, e := queue.New(most); q != nil || e != api.ErrArg {
			t.Error(most, e)
		}
	}
	made(t, api.MaxStack)
	q := made(t, 1)
	if id, ok := q.Holder(); id != 0 || ok || len(q.Waits()) != 0 || q.Turns() != 0 {
		t.Error("empty")
	}
	if id, ok := q.Grant(); id != 0 || ok {
		t.Error("nobody waits")
	}
}

func TestExample(t *testing.T) {
	q := made(t, 5)
	q.Want(5)
	q.Want(7)
	if id, ok := q.Grant(); id != 5 || !ok {
		t.Error(id, ok)
	}
	if id, ok := q.Grant(); id != 0 || ok || q.Turns() != 1 {
		t.Error("it is somebody's turn", id, ok)
	}
	q.Release(5)
	if id, ok := q.Grant(); id != 7 || !ok || q.Turns() != 2 {
		t.Error(id, ok)
	}
}

func TestErrors(t *testing.T) {
	q := made(t, 2)
	if q.Want(0) != api.OK || q.Want(0) != api.ErrDup || q.Release(0) != api.ErrState || q.Leave(9) != api.ErrNone {
		t.Error("one waits")
	}
	q.Grant()
	if q.Want(0) != api.ErrDup || q.Leave(0) != api.ErrState || q.Release(3) != api.ErrState || q.Want(-1) != api.OK || q.Want(2) != api.OK || q.Want(3) != api.ErrFull || q.Want(2) != api.ErrDup || q.Want(0) != api.ErrDup {
		t.Error("who has its turn does not wait")
	}
	if n, ok := q.Ahead(0); n != 0 || !ok {
		t.Error(n, ok)
	}
	if n, ok := q.Ahead(2); n != 2 || !ok {
		t.Error(n, ok)
	}
	if n, ok := q.Ahead(5); n != 0 || ok {
		t.Error(n, ok)
	}
	if q.Release(0) != api.OK || q.Release(0) != api.ErrState {
		t.Error("Release")
	}
	if n, ok := q.Ahead(2); n != 1 || !ok {
		t.Error(n, ok)
	}
	if n, ok := q.Ahead(0); n != 0 || ok {
		t.Error(n, ok)
	}
	if q.Leave(-1) != api.OK || q.Leave(-1) != api.ErrNone {
		t.Error("Leave")
	}
	if id, ok := q.Grant(); id != 2 || !ok {
		t.Error(id, ok)
	}
	if q.Leave(2) != api.ErrState {
		t.Error("who has it releases it")
	}
}

func TestAgainstAModel(t *testing.T) {
	for _, most := range []int{1, 3, 6} {
		q := made(t, most)
		var waits []int
		holder, held, turns := 0, false, 0
		seed := uint32(most)
		for step := range 6000 {
			seed = seed*1664525 + 1013904223
			id := int(seed>>16) % (most + 3)
			switch seed >> 29 {
			case 0, 1, 2:
				e := api.OK
				if held && holder == id || slices.Contains(waits, id) {
					e = api.ErrDup
				} else if len(waits) == most {
					e = api.ErrFull
				} else {
					waits = append(waits, id)
				}
				if f := q.Want(id); f != e {
					t.Fatal(step, "Want", f, e)
				}
			case 3, 4:
				w := 0
				can := !held && len(waits) > 0
				if can {
					w = waits[0]
					holder, held, waits = w, true, waits[1:]
					turns++
				}
				if got, ok := q.Grant(); got != w || ok != can {
					t.Fatal(step, "Grant", got, ok)
				}
			case 5, 6:
				e := api.ErrState
				if held && holder == id {
					holder, held, e = 0, false, api.OK
				}
				if f := q.Release(id); f != e {
					t.Fatal(step, "Release", f, e)
				}
			case 7:
				e := api.ErrNone
				if i := slices.Index(waits, id); held && holder == id {
					e = api.ErrState
				} else if i >= 0 {
					waits, e = slices.Delete(slices.Clone(waits), i, i+1), api.OK
				}
				if f := q.Leave(id); f != e {
					t.Fatal(step, "Leave", f, e)
				}
			}
			if h, ok := q.Holder(); h != holder || ok != held || q.Turns() != turns || !slices.Equal(q.Waits(), waits) {
				t.Fatal(step, h, ok, q.Waits(), waits)
			}
			for id := -1; id < most+4; id++ {
				n, there := slices.Index(waits, id), slices.Contains(waits, id)
				if there && held {
					n++
				}
				if held && holder == id {
					n, there = 0, true
				}
				if got, ok := q.Ahead(id); got != max(n, 0) || ok != there {
					t.Fatal(step, "Ahead", id, got, ok)
				}
			}
		}
	}
	q := made(t, 3)
	q.Want(1)
	if q.Waits()[0] = 5; q.Waits()[0] != 1 {
		t.Error("shared")
	}
}

func TestTurnsComeInOrder(t *testing.T) {
	q := made(t, 9)
	for id := range 5 {
		q.Want(id)
	}
	q.Grant()
	n, _ := q.Ahead(4)
	for range n {
		h, _ := q.Holder()
		q.Release(h)
		q.Grant()
	}
	if h, ok := q.Holder(); h != 4 || !ok {
		t.Error(h, ok)
	}
}

func TestNil(t *testing.T) {
	var q *queue.Queue
	g, granted := q.Grant()
	h, held := q.Holder()
	n, there := q.Ahead(1)
	if q.Want(1) != api.ErrArg || g != 0 || granted || q.Release(1) != api.ErrArg || q.Leave(1) != api.ErrArg || h != 0 || held || len(q.Waits()) != 0 || n != 0 || there || q.Turns() != 0 {
		t.Error("nil")
	}
}
