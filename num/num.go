// Package num is layer 1: integers of 64 bits whose overflow is noticed, or held at the nearest number that fits.
package num

import "math"

// Add is the sum and true, if it fits; else 0 and false.
func Add(a, b int64) (int64, bool) {
	s := a + b
	// A sum that has wrapped round lies on the wrong side of a.
	if (s < a) != (b < 0) {
		return 0, false
	}
	return s, true
}

// Sub is the difference a - b and true, if it fits; else 0 and false.
func Sub(a, b int64) (int64, bool) {
	d := a - b
	// A difference that has wrapped round lies on the wrong side of a.
	if (d > a) != (b < 0) {
		return 0, false
	}
	return d, true
}

// Neg is 0 - a and true, if it fits; else 0 and false.
func Neg(a int64) (int64, bool) { return Sub(0, a) }

// Abs is the absolute value and true, if it fits; else 0 and false.
func Abs(a int64) (int64, bool) {
	if a < 0 {
		return Neg(a)
	}
	return a, true
}

// Size is the absolute value, which always fits without a sign.
func Size(a int64) uint64 {
	if a < 0 {
		// Unsigned numbers wrap round, so that this holds for -2^63, too.
		return -uint64(a)
	}
	return uint64(a)
}

// Mul is the product and true, if it fits; else 0 and false.
func Mul(a, b int64) (int64, bool) {
	if b == 0 {
		return 0, true
	}
	// -2^63 times -1 wraps round to -2^63, and so does its quotient: dividing would not show it.
	if b == -1 {
		return Neg(a)
	}
	p := a * b
	if p/b != a {
		return 0, false
	}
	return p, true
}

// AddSat is the number that fits and is nearest to the sum.
func AddSat(a, b int64) int64 {
	s, ok := Add(a, b)
	if ok {
		return s
	}
	return outermost(b < 0)
}

// SubSat is the number that fits and is nearest to the difference a - b.
func SubSat(a, b int64) int64 {
	d, ok := Sub(a, b)
	if ok {
		return d
	}
	return outermost(b > 0)
}

// MulSat is the number that fits and is nearest to the product.
func MulSat(a, b int64) int64 {
	p, ok := Mul(a, b)
	if ok {
		return p
	}
	return outermost((a < 0) != (b < 0))
}

// outermost is the least number that fits, or the greatest: the nearest to any that lies beyond it.
func outermost(negative bool) int64 {
	if negative {
		return math.MinInt64
	}
	return math.MaxInt64
}

// Clamp is the greater of lo and the lesser of x and hi: so lo prevails where it is above hi.
func Clamp(x, lo, hi int64) int64 { return max(lo, min(x, hi)) }

// Mid is half of the sum, rounded down.
func Mid(a, b int64) int64 {
	// The sum may not fit. It is twice the bits that both have, plus those that one alone has.
	return a&b + (a^b)>>1
}

// Sign is -1, 0 or 1, as a is negative, 0 or positive.
func Sign(a int64) int {
	if a < 0 {
		return -1
	}
	if a > 0 {
		return 1
	}
	return 0
}
