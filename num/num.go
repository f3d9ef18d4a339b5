// Package num is layer 1: numbers that do not run over: see DOC.md and doc/01-num.md.
package num

import (
	"math"

	"alidade/api"
)

// Add is the sum of both, if that is a number of 64 bits.
func Add(a, b int) (int, bool) {
	sum := a + b
	if (b > 0 && sum < a) || (b < 0 && sum > a) {
		return 0, false
	}
	return sum, true
}

// Sub is a less b, if that is a number of 64 bits.
func Sub(a, b int) (int, bool) {
	rest := a - b
	if (b > 0 && rest > a) || (b < 0 && rest < a) {
		return 0, false
	}
	return rest, true
}

// Mul is the product of both, if that is a number of 64 bits.
func Mul(a, b int) (int, bool) {
	if a == 0 || b == 0 {
		return 0, true
	}
	// The least number divided by -1 wraps round to itself, so the check by division misses it.
	if a == math.MinInt && b == -1 {
		return 0, false
	}
	product := a * b
	if product/b != a {
		return 0, false
	}
	return product, true
}

// Neg is the negative of a, if that is a number of 64 bits.
func Neg(a int) (int, bool) {
	return Sub(0, a)
}

// Sum is all of l together, if no sum on the way runs over.
func Sum(l ...int) (int, bool) {
	sum := 0
	for _, n := range l {
		next, ok := Add(sum, n)
		if !ok {
			return 0, false
		}
		sum = next
	}
	return sum, true
}

// Mid is the half of both's sum, rounded down.
func Mid(a, b int) int {
	// What both have in common, and half of what they do not: their sum is never made.
	return (a & b) + ((a ^ b) >> 1)
}

// Good tells whether c is a coordinate.
func Good(c int) bool {
	return -api.MaxCoord <= c && c <= api.MaxCoord
}

// Sign is -1, 0 or 1.
func Sign(a int) int {
	switch {
	case a < 0:
		return -1
	case a > 0:
		return 1
	}
	return 0
}
