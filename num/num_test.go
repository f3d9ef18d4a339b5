package num_test

import (
	"math"
	"math/big"
	"testing"

	"alidade/api"
	"alidade/num"
)

const most, least = math.MaxInt, math.MinInt

var edges = []int{least, least + 1, least + 2, -1 << 62, -3037000500, -3037000499, -1 << 41, -api.MaxCoord - 1, -api.MaxCoord,
	-1 << 32, -1 << 31, -7, -3, -2, -1, 0, 1, 2, 3, 7, 1 << 31, 1<<31 - 1, 1 << 32, api.MaxCoord, api.MaxCoord + 1, 1 << 41,
	3037000499, 3037000500, 1 << 62, most - 2, most - 1, most}

func fits(b *big.Int) (int, bool) {
	if b.IsInt64() {
		return int(b.Int64()), true
	}
	return 0, false
}

func TestReckoning(t *testing.T) {
	for _, a := range edges {
		for _, b := range edges {
			x, y := big.NewInt(int64(a)), big.NewInt(int64(b))
			for name, c := range map[string]struct {
				f func(a, b int) (int, bool)
				w *big.Int
			}{
				"Add": {num.Add, new(big.Int).Add(x, y)},
				"Sub": {num.Sub, new(big.Int).Sub(x, y)},
				"Mul": {num.Mul, new(big.Int).Mul(x, y)},
			} {
				n, ok := c.f(a, b)
				if w, fit := fits(c.w); n != w || ok != fit {
					t.Errorf("%s(%d, %d): %d %v, not %d %v", name, a, b, n, ok, w, fit)
				}
			}
		}
		n, ok := num.Neg(a)
		if w, fit := fits(new(big.Int).Neg(big.NewInt(int64(a)))); n != w || ok != fit {
			t.Errorf("Neg(%d): %d %v", a, n, ok)
		}
	}
}

func TestSum(t *testing.T) {
	for _, c := range []struct {
		l  []int
		n  int
		ok bool
	}{
		{nil, 0, true}, {[]int{5}, 5, true}, {[]int{least}, least, true}, {[]int{1, 2, 3, -10}, -4, true},
		{[]int{most, -1, 1}, most, true}, {[]int{most, 1, -1}, 0, false}, {[]int{-1, most, 1}, most, true},
		{[]int{least, -1, 1}, 0, false}, {[]int{1, least, -1}, least, true}, {[]int{1, 1, most}, 0, false},
	} {
		if n, ok := num.Sum(c.l...); n != c.n || ok != c.ok {
			t.Errorf("Sum(%v): %d %v", c.l, n, ok)
		}
	}
	l := []int{3, 2, 1}
	if num.Sum(l...); l[0] != 3 || l[1] != 2 || l[2] != 1 {
		t.Error("Sum changes what is handed in", l)
	}
}

func TestMid(t *testing.T) {
	for _, a := range edges {
		for _, b := range edges {
			s := new(big.Int).Add(big.NewInt(int64(a)), big.NewInt(int64(b)))
			w := int(s.Rsh(s, 1).Int64())
			m := num.Mid(a, b)
			if m != w {
				t.Errorf("Mid(%d, %d): %d, not %d", a, b, m, w)
			}
			if m < min(a, b) || m > max(a, b) {
				t.Errorf("Mid(%d, %d): %d lies outside", a, b, m)
			}
		}
	}
	if num.Mid(-3, 0) != -2 {
		t.Error("Mid(-3, 0)")
	}
}

func TestGoodAndSign(t *testing.T) {
	for _, a := range edges {
		if num.Good(a) != (a >= -1<<40 && a <= 1<<40) {
			t.Errorf("Good(%d)", a)
		}
		w := 0
		if a < 0 {
			w = -1
		} else if a > 0 {
			w = 1
		}
		if num.Sign(a) != w {
			t.Errorf("Sign(%d): %d", a, num.Sign(a))
		}
	}
}

func TestWhatWasAddedMayBeTakenAway(t *testing.T) {
	for _, a := range edges {
		for _, b := range edges {
			n, ok := num.Add(a, b)
			if !ok {
				continue
			}
			if m, ok := num.Sub(n, b); !ok || m != a {
				t.Errorf("Sub(Add(%d, %d), %d): %d %v", a, b, b, m, ok)
			}
		}
	}
}
