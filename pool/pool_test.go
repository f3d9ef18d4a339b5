package pool_test

import (
	"slices"
	"testing"

	"alidade/api"
	"alidade/pool"
)

func made(t *testing.T, most int) *pool.Pool[string] {
	t.Helper()
	p, e := pool.New[string](most)
	if p == nil || e != api.OK {
		t.Fatal(most, e)
	}
	return p
}

func TestNew(t *testing.T) {
	for _, most := range []int{0, -1, api.MaxPool + 1, 1 << 62} {
		if p, e := pool.New[int](most); p != nil || e != api.ErrArg {
			t.Error(most, p, e)
		}
	}
	for _, most := range []int{1, 2, api.MaxPool} {
		p, e := pool.New[int](most)
		if p == nil || e != api.OK || p.Room() != most || p.Len() != 0 || len(p.All()) != 0 {
			t.Error(most, p, e)
		}
	}
}

func TestTakeAndGive(t *testing.T) {
	p := made(t, 3)
	take := func(v string, n int, e api.Errno) {
		t.Helper()
		if i, f := p.Take(v); i != n || f != e {
			t.Fatal(v, i, f)
		}
	}
	take("a", 1, api.OK)
	take("b", 2, api.OK)
	if e := p.Give(1); e != api.OK {
		t.Fatal(e)
	}
	if e := p.Give(1); e != api.ErrNone {
		t.Fatal("given twice", e)
	}
	take("c", 1, api.OK)
	take("d", 3, api.OK)
	take("e", 0, api.ErrFull)
	if p.Len() != 3 || p.Room() != 0 {
		t.Fatal(p.Len(), p.Room())
	}
	p.Give(3)
	p.Give(1)
	p.Give(2)
	take("x", 2, api.OK)
	take("y", 1, api.OK)
	p.Give(2)
	take("z", 2, api.OK)
	take("w", 3, api.OK)
	for i, v := range []string{"y", "z", "w"} {
		if w, ok := p.Get(i + 1); w != v || !ok {
			t.Error(i, w, ok)
		}
	}
	p.Clear()
	if p.Len() != 0 || p.Room() != 3 || len(p.All()) != 0 {
		t.Error("Clear")
	}
	if v, ok := p.Get(1); v != "" || ok {
		t.Error("what was cleared", v)
	}
	take("q", 1, api.OK)
	take("r", 2, api.OK)
}

func TestGetAndSet(t *testing.T) {
	p := made(t, 5)
	p.Take("a")
	p.Take("b")
	p.Give(1)
	for _, i := range []int{-1, 0, 1, 3, 6, 1 << 62, -1 << 63} {
		if v, ok := p.Get(i); v != "" || ok {
			t.Error("Get", i, v)
		}
		if e := p.Set(i, "x"); e != api.ErrNone {
			t.Error("Set", i, e)
		}
		if e := p.Give(i); e != api.ErrNone {
			t.Error("Give", i, e)
		}
	}
	if e := p.Set(2, "c"); e != api.OK {
		t.Error(e)
	}
	if v, ok := p.Get(2); v != "c" || !ok {
		t.Error(v)
	}
	i, _ := p.Take("")
	if v, ok := p.Get(i); i != 1 || v != "" || !ok {
		t.Error(i, v, ok)
	}
}

func TestReserve(t *testing.T) {
	p := made(t, 3)
	p.Take("a")
	for n, e := range map[int]api.Errno{-1: api.ErrArg, 0: api.OK, 2: api.OK, 3: api.ErrFull, 1 << 62: api.ErrFull, -1 << 63: api.ErrArg} {
		if f := p.Reserve(n); f != e {
			t.Error(n, f)
		}
	}
	if i, _ := p.Take("b"); i != 2 || p.Room() != 1 {
		t.Error("Reserve changed something")
	}
}

func TestNil(t *testing.T) {
	var p *pool.Pool[int]
	if i, e := p.Take(1); i != 0 || e != api.ErrArg {
		t.Error(i, e)
	}
	if v, ok := p.Get(1); v != 0 || ok {
		t.Error(v)
	}
	if p.Give(1) != api.ErrArg || p.Set(1, 1) != api.ErrArg || p.Reserve(0) != api.ErrArg || p.Len() != 0 || p.Room() != 0 || len(p.All()) != 0 {
		t.Error("nil")
	}
	p.Clear()
}

func TestAgainstAModel(t *testing.T) {
	const most = 7
	p, _ := pool.New[int](most)
	has := map[int]int{}
	var given []int
	next, seed := 1, uint32(1)
	for step := 0; step < 5000; step++ {
		seed = seed*1664525 + 1013904223
		i := int(seed>>16) % (most + 2)
		switch (seed >> 28) % 3 {
		case 0, 1:
			w, full := 0, len(has) == most
			if !full {
				if w = next; len(given) > 0 {
					w, given = given[len(given)-1], given[:len(given)-1]
				} else {
					next++
				}
				has[w] = step
			}
			if n, e := p.Take(step); n != w || (e == api.ErrFull) != full {
				t.Fatal(step, n, w, e)
			}
		case 2:
			_, ok := has[i]
			if e := p.Give(i); (e == api.OK) != ok {
				t.Fatal(step, e)
			}
			if ok {
				delete(has, i)
				given = append(given, i)
			}
		}
		var all []int
		for i, v := range has {
			all = append(all, i)
			if w, ok := p.Get(i); !ok || w != v {
				t.Fatal(step, i, w)
			}
		}
		slices.Sort(all)
		if !slices.Equal(all, p.All()) || p.Len() != len(has) || p.Room() != most-len(has) {
			t.Fatal(step, all, p.All())
		}
	}
	l := p.All()
	for i := range l {
		l[i] = -1
	}
	if slices.Contains(p.All(), -1) {
		t.Error("All is not new")
	}
}
