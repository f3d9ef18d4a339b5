package box_test

import (
	"math"
	"testing"

	"alidade/api"
	"alidade/box"
)

const far = api.MaxCoord

func at(x, y int) api.Point { return api.Point{X: x, Y: y} }

func bx(x1, x2, y1, y2 int) api.Box { return api.Box{X1: x1, X2: x2, Y1: y1, Y2: y2} }

func TestCheck(t *testing.T) {
	for _, c := range []struct {
		b api.Box
		e api.Errno
	}{
		{bx(0, 0, 0, 0), api.OK}, {bx(-far, far, -far, far), api.OK}, {bx(1, 0, 0, 0), api.ErrOrder}, {bx(0, 0, 1, 0), api.ErrOrder},
		{bx(far+1, 0, 0, 0), api.ErrRange}, {bx(0, far+1, 0, 0), api.ErrRange}, {bx(0, 0, -far-1, 0), api.ErrRange}, {bx(0, 0, 0, far+1), api.ErrRange},
		{bx(5, 3, 0, far+1), api.ErrRange}, {bx(5, 3, -far-1, 0), api.ErrRange}, {bx(math.MinInt, 0, 0, 0), api.ErrRange}, {bx(0, 0, 5, -5), api.ErrOrder},
	} {
		if e := box.Check(c.b); e != c.e {
			t.Error(c.b, e)
		}
	}
	if box.All() != bx(-far, far, -far, far) {
		t.Error("All", box.All())
	}
}

func boxes() []api.Box {
	var l []api.Box
	v := []int{-2, 0, 1, 3}
	for _, a := range v {
		for _, b := range v {
			for _, c := range v {
				for _, d := range v {
					l = append(l, bx(a, b, c, d))
				}
			}
		}
	}
	return append(l, bx(math.MinInt, math.MaxInt, 0, 1), bx(0, 1, math.MinInt, math.MaxInt), bx(math.MaxInt, math.MinInt, 0, 1))
}

func has(b api.Box, x, y int) bool { return b.X1 <= x && x <= b.X2 && b.Y1 <= y && y <= b.Y2 }

func TestHasMeetWithin(t *testing.T) {
	if m, ok := box.Meet(bx(0, 4, 0, 4), bx(2, 6, 4, 9)); !ok || m != bx(2, 4, 4, 4) {
		t.Error(m, ok)
	}
	for _, a := range boxes() {
		for x := -3; x < 5; x++ {
			for y := -3; y < 5; y++ {
				if box.Has(a, at(x, y)) != has(a, x, y) {
					t.Fatal("Has", a, x, y)
				}
			}
		}
		for _, b := range boxes() {
			m, ok := box.Meet(a, b)
			any, all := false, true
			for x := -3; x < 5; x++ {
				for y := -3; y < 5; y++ {
					in := has(a, x, y) && has(b, x, y)
					if (ok && has(m, x, y)) != in {
						t.Fatal("Meet", a, b, m, ok)
					}
					any = any || has(a, x, y)
					if has(a, x, y) && !has(b, x, y) {
						all = false
					}
				}
			}
			if !ok && m != (api.Box{}) {
				t.Fatal("Meet of nothing", a, b, m)
			}
			if a.X1 > -100 && a.X2 < 100 && a.Y1 > -100 && a.Y2 < 100 && box.Within(a, b) != (any && all) {
				t.Fatal("Within", a, b)
			}
		}
	}
	if m, ok := box.Meet(bx(0, 9, 0, 9), bx(3, 5, 2, 4)); !ok || m != bx(3, 5, 2, 4) {
		t.Error("one in the other", m)
	}
}

func TestAround(t *testing.T) {
	if b, ok := box.Around(); ok || b != (api.Box{}) {
		t.Error("none", b)
	}
	if b, ok := box.Around(at(5, -7)); !ok || b != bx(5, 5, -7, -7) {
		t.Error("one", b)
	}
	if b, ok := box.Around(at(5, -7), at(-3, 2), at(4, 9), at(0, 0)); !ok || b != bx(-3, 5, -7, 9) {
		t.Error("some", b)
	}
	if b, ok := box.Around(at(math.MaxInt, 1), at(math.MinInt, 1)); !ok || b != bx(math.MinInt, math.MaxInt, 1, 1) {
		t.Error("far", b)
	}
}

func TestWindows(t *testing.T) {
	for _, c := range []struct {
		w api.Win
		b api.Box
		e api.Errno
	}{
		{api.Win{X1: 1, X2: 2, Y: 3}, bx(1, 2, 3, far), api.OK}, {api.Win{X1: -far, X2: far, Y: far}, bx(-far, far, far, far), api.OK},
		{api.Win{X1: 2, X2: 1, Y: 3}, api.Box{}, api.ErrOrder}, {api.Win{X1: 2, X2: 1, Y: far + 1}, api.Box{}, api.ErrRange},
		{api.Win{X1: -far - 1, X2: 1, Y: 0}, api.Box{}, api.ErrRange}, {api.Win{X1: 0, X2: far + 1, Y: 0}, api.Box{}, api.ErrRange}, {api.Win{X1: 0, X2: 1, Y: -far - 1}, api.Box{}, api.ErrRange},
	} {
		if b, e := box.Open(c.w); b != c.b || e != c.e {
			t.Error(c.w, b, e)
		}
	}
	for x1 := -2; x1 < 3; x1++ {
		for x2 := -2; x2 < 3; x2++ {
			for x := -3; x < 4; x++ {
				for y := -3; y < 4; y++ {
					if box.Sees(api.Win{X1: x1, X2: x2, Y: 1}, at(x, y)) != (x1 <= x && x <= x2 && y >= 1) {
						t.Fatal("Sees", x1, x2, x, y)
					}
				}
			}
		}
	}
	if !box.Sees(api.Win{X1: 0, X2: 0, Y: math.MinInt}, at(0, math.MaxInt)) {
		t.Error("open above")
	}
}

func TestIntervals(t *testing.T) {
	for a := -2; a < 4; a++ {
		for b := -2; b < 4; b++ {
			s := api.Span{Lo: a, Hi: b}
			for x := -3; x < 5; x++ {
				if box.Stabs(s, x) != (a <= x && x <= b) {
					t.Fatal("Stabs", s, x)
				}
			}
			for c := -2; c < 4; c++ {
				for d := -2; d < 4; d++ {
					u := api.Span{Lo: c, Hi: d}
					common := false
					for x := -3; x < 5; x++ {
						common = common || a <= x && x <= b && c <= x && x <= d
					}
					if box.Overlap(s, u) != common {
						t.Fatal("Overlap", s, u)
					}
					g := max(a, c)
					if box.Overlap(s, u) != (box.Stabs(s, g) && box.Stabs(u, g)) {
						t.Fatal("the greater Lo", s, u)
					}
				}
			}
		}
	}
}
