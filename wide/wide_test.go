package wide_test

import (
	"math"
	"math/big"
	"testing"

	"alidade/api"
	"alidade/wide"
)

const most, least = math.MaxInt, math.MinInt

var ints = []int{least, least + 1, -1 << 62, -1 << 40, -3037000500, -7, -2, -1, 0, 1, 2, 7, 1 << 31, 1<<32 - 1, 1 << 32, 1 << 40, 1 << 62, most - 1, most}

func wides() []api.Wide {
	var l []api.Wide
	for _, hi := range []int64{math.MinInt64, math.MinInt64 + 1, -1 << 62, -65536, -2, -1, 0, 1, 2, 65536, 1 << 62, math.MaxInt64 - 1, math.MaxInt64} {
		for _, lo := range []uint64{0, 1, 2, 1 << 32, 1<<63 - 1, 1 << 63, 1<<63 + 1, math.MaxUint64 - 1, math.MaxUint64} {
			l = append(l, api.Wide{Hi: hi, Lo: lo})
		}
	}
	return l
}

func number(a api.Wide) *big.Int {
	n := new(big.Int).Lsh(big.NewInt(a.Hi), 64)
	return n.Add(n, new(big.Int).SetUint64(a.Lo))
}

func fits(n *big.Int) bool {
	top := new(big.Int).Lsh(big.NewInt(1), 127)
	return n.Cmp(top) < 0 && n.Cmp(new(big.Int).Neg(top)) >= 0
}

func same(t *testing.T, what string, got api.Wide, ok bool, want *big.Int) {
	t.Helper()
	if !fits(want) {
		if ok || got != (api.Wide{}) {
			t.Errorf("%s: %v %v, not none", what, got, ok)
		}
		return
	}
	if !ok || number(got).Cmp(want) != 0 {
		t.Errorf("%s: %v %v, not %v", what, got, ok, want)
	}
}

func TestOfAndMul(t *testing.T) {
	for _, a := range ints {
		same(t, "Of", wide.Of(a), true, big.NewInt(int64(a)))
		for _, b := range ints {
			same(t, "Mul", wide.Mul(a, b), true, new(big.Int).Mul(big.NewInt(int64(a)), big.NewInt(int64(b))))
		}
	}
	if w := wide.Mul(1<<40, -1<<40); w != (api.Wide{Hi: -65536, Lo: 0}) {
		t.Error(w)
	}
}

func TestReckoning(t *testing.T) {
	for _, a := range wides() {
		x := number(a)
		n, ok := wide.Neg(a)
		same(t, "Neg", n, ok, new(big.Int).Neg(x))
		i, ok := wide.Int(a)
		if ok != x.IsInt64() || ok && int64(i) != x.Int64() || !ok && i != 0 {
			t.Error("Int", a, i, ok)
		}
		if wide.Sign(a) != x.Sign() {
			t.Error("Sign", a)
		}
		for _, b := range wides() {
			y := number(b)
			n, ok := wide.Add(a, b)
			same(t, "Add", n, ok, new(big.Int).Add(x, y))
			n, ok = wide.Sub(a, b)
			same(t, "Sub", n, ok, new(big.Int).Sub(x, y))
			if wide.Cmp(a, b) != x.Cmp(y) {
				t.Error("Cmp", a, b, wide.Cmp(a, b))
			}
		}
	}
}

func TestProductsAndOrderGoWithSums(t *testing.T) {
	small := []int{-1 << 61, -1 << 40, -3, -1, 0, 1, 2, 1 << 40, 1 << 61}
	for _, a := range small {
		for _, b := range small {
			for _, c := range small {
				sum, ok := wide.Add(wide.Mul(a, c), wide.Mul(b, c))
				if !ok || sum != wide.Mul(a+b, c) {
					t.Error(a, b, c, sum, ok)
				}
				x, _ := wide.Add(wide.Of(a), wide.Of(c))
				y, _ := wide.Add(wide.Of(b), wide.Of(c))
				if wide.Cmp(x, y) != wide.Cmp(wide.Of(a), wide.Of(b)) {
					t.Error("order", a, b, c)
				}
			}
		}
	}
}
