package wide_test

import (
	"math"
	"math/big"
	"slices"
	"testing"

	"odograph/api"
	"odograph/wide"
)

const (
	top  = uint64(1) << 63
	full = uint64(math.MaxUint64)
)

// words are the halves of numbers around which carries begin, or bits end.
func words() []uint64 {
	l := []uint64{0, 1, 2, 3, 5, 7, 10, 255, full, full - 1, full - 2, full / 3, full/3 + 1}
	for _, e := range []uint{31, 32, 33, 62, 63} {
		l = append(l, 1<<e-1, 1<<e, 1<<e+1)
	}
	return l
}

// scattered are words of all lengths, always the same ones.
func scattered(n int) []uint64 {
	l := make([]uint64, n)
	state := uint64(2)
	for i := range l {
		state = state*6364136223846793005 + 1442695040888963407
		mixed := state ^ state>>31
		l[i] = mixed >> (i % 64)
	}
	return l
}

// numbers are all that have two of the words, and scattered ones of all lengths.
func numbers() []wide.U {
	var l []wide.U
	for _, hi := range words() {
		for _, lo := range words() {
			l = append(l, wide.U{Hi: hi, Lo: lo})
		}
	}
	s := scattered(192)
	for i, w := range s {
		l = append(l, wide.U{Hi: w, Lo: s[(i*7+1)%len(s)]}, wide.U{Lo: w})
	}
	return l
}

// pairs calls f with all pairs of numbers.
func pairs(f func(x, y wide.U)) {
	l := numbers()
	for _, x := range l {
		for _, y := range l {
			f(x, y)
		}
	}
}

func exact(x wide.U) *big.Int {
	z := word(x.Hi)
	return z.Add(z.Lsh(z, 64), word(x.Lo))
}

func word(w uint64) *big.Int { return new(big.Int).SetUint64(w) }

// wrapped is a number modulo 2^128.
func wrapped(z *big.Int) wide.U {
	size := new(big.Int).Lsh(big.NewInt(1), 128)
	// Mod is never negative, also where z is.
	rest := new(big.Int).Mod(z, size)
	return wide.U{Hi: new(big.Int).Rsh(rest, 64).Uint64(), Lo: rest.And(rest, word(full)).Uint64()}
}

// P2.1: the product of any two words.
func TestMul(t *testing.T) {
	l := append(words(), scattered(192)...)
	for _, a := range l {
		for _, b := range l {
			want := wrapped(new(big.Int).Mul(word(a), word(b)))
			if got := wide.Mul(a, b); got != want {
				t.Errorf("Mul(%d, %d) = %v; want %v", a, b, got, want)
			}
		}
	}
	for _, c := range []struct {
		a, b uint64
		want wide.U
	}{
		{6, 7, wide.U{Hi: 0, Lo: 42}},
		{0, full, wide.U{}},
		{full, 1, wide.U{Hi: 0, Lo: full}},
		{1 << 32, 1 << 32, wide.U{Hi: 1, Lo: 0}},
		{full, 2, wide.U{Hi: 1, Lo: full - 1}},
		{full, full, wide.U{Hi: full - 1, Lo: 1}},
		{top, 2, wide.U{Hi: 1, Lo: 0}},
	} {
		if got := wide.Mul(c.a, c.b); got != c.want {
			t.Errorf("Mul(%d, %d) = %v; want %v", c.a, c.b, got, c.want)
		}
	}
}

// P2.1: the sum modulo 2^128, and whether it is 2^128 or more.
func TestAdd(t *testing.T) {
	pairs(func(x, y wide.U) {
		sum := new(big.Int).Add(exact(x), exact(y))
		want, wantOver := wrapped(sum), sum.BitLen() > 128
		if got, over := x.Add(y); got != want || over != wantOver {
			t.Errorf("%v.Add(%v) = %v, %t; want %v, %t", x, y, got, over, want, wantOver)
		}
	})
}

// P2.1: the difference modulo 2^128, and whether it is negative.
func TestSub(t *testing.T) {
	pairs(func(x, y wide.U) {
		difference := new(big.Int).Sub(exact(x), exact(y))
		want, wantBelow := wrapped(difference), difference.Sign() < 0
		if got, below := x.Sub(y); got != want || below != wantBelow {
			t.Errorf("%v.Sub(%v) = %v, %t; want %v, %t", x, y, got, below, want, wantBelow)
		}
	})
}

// P2.1: where sums and differences carry from half to half, and out of the number, in numbers written out.
func TestCarries(t *testing.T) {
	for _, c := range []struct {
		name       string
		call       func(x, y wide.U) (wide.U, bool)
		x, y, want wide.U
		out        bool
	}{
		{"Add", wide.U.Add, wide.U{Hi: 1, Lo: 2}, wide.U{Hi: 3, Lo: 4}, wide.U{Hi: 4, Lo: 6}, false},
		{"Add", wide.U.Add, wide.U{Hi: 0, Lo: full}, wide.U{Hi: 0, Lo: 1}, wide.U{Hi: 1, Lo: 0}, false},
		{"Add", wide.U.Add, wide.U{Hi: full, Lo: full}, wide.U{}, wide.U{Hi: full, Lo: full}, false},
		{"Add", wide.U.Add, wide.U{Hi: full, Lo: full}, wide.U{Hi: 0, Lo: 1}, wide.U{}, true},
		{"Add", wide.U.Add, wide.U{Hi: full, Lo: 5}, wide.U{Hi: 0, Lo: 1}, wide.U{Hi: full, Lo: 6}, false},
		{"Add", wide.U.Add, wide.U{Hi: top, Lo: 1}, wide.U{Hi: top, Lo: 2}, wide.U{Hi: 0, Lo: 3}, true},
		{"Add", wide.U.Add, wide.U{Hi: top - 1, Lo: full}, wide.U{Hi: top, Lo: 1}, wide.U{}, true},
		{"Add", wide.U.Add, wide.U{Hi: full, Lo: full}, wide.U{Hi: full, Lo: full}, wide.U{Hi: full, Lo: full - 1}, true},
		{"Sub", wide.U.Sub, wide.U{Hi: 4, Lo: 6}, wide.U{Hi: 3, Lo: 4}, wide.U{Hi: 1, Lo: 2}, false},
		{"Sub", wide.U.Sub, wide.U{Hi: 1, Lo: 0}, wide.U{Hi: 0, Lo: 1}, wide.U{Hi: 0, Lo: full}, false},
		{"Sub", wide.U.Sub, wide.U{}, wide.U{Hi: 0, Lo: 1}, wide.U{Hi: full, Lo: full}, true},
		{"Sub", wide.U.Sub, wide.U{Hi: 7, Lo: 8}, wide.U{Hi: 7, Lo: 8}, wide.U{}, false},
		{"Sub", wide.U.Sub, wide.U{Hi: 7, Lo: 8}, wide.U{Hi: 7, Lo: 9}, wide.U{Hi: full, Lo: full}, true},
		{"Sub", wide.U.Sub, wide.U{Hi: 7, Lo: full}, wide.U{Hi: 8, Lo: 0}, wide.U{Hi: full, Lo: full}, true},
		{"Sub", wide.U.Sub, wide.U{}, wide.U{Hi: full, Lo: full}, wide.U{Hi: 0, Lo: 1}, true},
	} {
		if got, out := c.call(c.x, c.y); got != c.want || out != c.out {
			t.Errorf("%v.%s(%v) = %v, %t; want %v, %t", c.x, c.name, c.y, got, out, c.want, c.out)
		}
	}
}

// P2.1: -1, 0 or 1; the upper half prevails.
func TestCmp(t *testing.T) {
	pairs(func(x, y wide.U) {
		if got, want := x.Cmp(y), exact(x).Cmp(exact(y)); got != want {
			t.Errorf("%v.Cmp(%v) = %d; want %d", x, y, got, want)
		}
	})
	for _, c := range []struct {
		x, y wide.U
		want int
	}{
		{wide.U{}, wide.U{}, 0},
		{wide.U{Hi: 2, Lo: 3}, wide.U{Hi: 2, Lo: 3}, 0},
		{wide.U{Hi: 2, Lo: 3}, wide.U{Hi: 2, Lo: 4}, -1},
		{wide.U{Hi: 2, Lo: 3}, wide.U{Hi: 2, Lo: 2}, 1},
		{wide.U{Hi: 1, Lo: full}, wide.U{Hi: 2, Lo: 0}, -1},
		{wide.U{Hi: 2, Lo: 0}, wide.U{Hi: 1, Lo: full}, 1},
		{wide.U{Hi: 0, Lo: full}, wide.U{Hi: full, Lo: 0}, -1},
		{wide.U{Hi: full, Lo: full}, wide.U{Hi: top - 1, Lo: full}, 1},
	} {
		if got := c.x.Cmp(c.y); got != c.want {
			t.Errorf("%v.Cmp(%v) = %d; want %d", c.x, c.y, got, c.want)
		}
	}
}

// P2.2: x times 2^n modulo 2^128, and x divided by 2^n, rounded down.
func TestShifts(t *testing.T) {
	for _, x := range numbers() {
		for n := range 200 {
			up := wrapped(new(big.Int).Lsh(exact(x), uint(n)))
			if got := x.Shl(n); got != up {
				t.Errorf("%v.Shl(%d) = %v; want %v", x, n, got, up)
			}
			down := wrapped(new(big.Int).Rsh(exact(x), uint(n)))
			if got := x.Shr(n); got != down {
				t.Errorf("%v.Shr(%d) = %v; want %v", x, n, got, down)
			}
		}
	}
}

// P2.2: a shift by less than 0 changes nothing, and one by 128 or more leaves nothing.
func TestShiftsFar(t *testing.T) {
	for _, x := range numbers() {
		for _, n := range []int{-1, -2, -63, -64, -65, -127, -128, -1 << 31, -1 << 32, math.MinInt, math.MinInt + 64} {
			if up, down := x.Shl(n), x.Shr(n); up != x || down != x {
				t.Errorf("%v by %d: %v, %v", x, n, up, down)
			}
		}
		for _, n := range []int{128, 129, 191, 192, 256, 1 << 31, 1 << 32, math.MaxInt - 64, math.MaxInt} {
			if up, down := x.Shl(n), x.Shr(n); up != (wide.U{}) || down != (wide.U{}) {
				t.Errorf("%v by %d: %v, %v", x, n, up, down)
			}
		}
	}
}

// P2.2: where a shift goes over the middle, in numbers written out.
func TestShiftsAtTheirEdges(t *testing.T) {
	x := wide.U{Hi: top | 7, Lo: top | 5}
	for _, c := range []struct {
		n        int
		up, down wide.U
	}{
		{0, x, x},
		{1, wide.U{Hi: 15, Lo: 10}, wide.U{Hi: top>>1 | 3, Lo: top | top>>1 | 2}},
		{63, wide.U{Hi: top | top>>1 | 2, Lo: top}, wide.U{Hi: 1, Lo: 15}},
		{64, wide.U{Hi: top | 5, Lo: 0}, wide.U{Hi: 0, Lo: top | 7}},
		{65, wide.U{Hi: 10, Lo: 0}, wide.U{Hi: 0, Lo: top>>1 | 3}},
		{127, wide.U{Hi: top, Lo: 0}, wide.U{Hi: 0, Lo: 1}},
		{128, wide.U{}, wide.U{}},
	} {
		if up, down := x.Shl(c.n), x.Shr(c.n); up != c.up || down != c.down {
			t.Errorf("by %d: %v, %v; want %v, %v", c.n, up, down, c.up, c.down)
		}
	}
}

// P2.2: the least n for which x is less than 2^n.
func TestLen(t *testing.T) {
	for _, x := range numbers() {
		if got, want := x.Len(), exact(x).BitLen(); got != want {
			t.Errorf("%v.Len() = %d; want %d", x, got, want)
		}
	}
	for _, c := range []struct {
		x    wide.U
		want int
	}{
		{wide.U{}, 0},
		{wide.U{Lo: 1}, 1},
		{wide.U{Lo: 7}, 3},
		{wide.U{Lo: 8}, 4},
		{wide.U{Lo: top - 1}, 63},
		{wide.U{Lo: full}, 64},
		{wide.U{Hi: 1, Lo: 0}, 65},
		{wide.U{Hi: 1, Lo: full}, 65},
		{wide.U{Hi: top - 1, Lo: full}, 127},
		{wide.U{Hi: top, Lo: 0}, 128},
		{wide.U{Hi: full, Lo: full}, 128},
	} {
		if got := c.x.Len(); got != c.want {
			t.Errorf("%v.Len() = %d; want %d", c.x, got, c.want)
		}
	}
}

// P2.3: the quotient rounded down, and the remainder.
func TestDiv(t *testing.T) {
	divisors := append(words(), scattered(192)...)
	divisors = slices.DeleteFunc(divisors, func(d uint64) bool { return d == 0 })
	for _, x := range numbers() {
		for _, d := range divisors {
			quotient, rest := new(big.Int).QuoRem(exact(x), word(d), new(big.Int))
			want, wantLeft := wrapped(quotient), rest.Uint64()
			if got, left, err := x.Div(d); got != want || left != wantLeft || err != api.OK {
				t.Errorf("%v.Div(%d) = %v, %d, %d; want %v, %d, 0", x, d, got, left, err, want, wantLeft)
			}
		}
	}
}

// P2.3: a division by 0 is refused, with nothing beside the error.
func TestDivByZero(t *testing.T) {
	for _, x := range numbers() {
		if got, left, err := x.Div(0); got != (wide.U{}) || left != 0 || err != api.ErrZero {
			t.Errorf("%v.Div(0) = %v, %d, %d", x, got, left, err)
		}
	}
}

// P2.3: quotients that need both halves, or one, in numbers written out.
func TestDivAtItsEdges(t *testing.T) {
	for _, c := range []struct {
		x    wide.U
		d    uint64
		want wide.U
		left uint64
	}{
		{wide.U{Hi: 1, Lo: 0}, 3, wide.U{Hi: 0, Lo: 6148914691236517205}, 1},
		{wide.U{}, 7, wide.U{}, 0},
		{wide.U{Hi: 0, Lo: 6}, 7, wide.U{}, 6},
		{wide.U{Hi: 0, Lo: 7}, 7, wide.U{Hi: 0, Lo: 1}, 0},
		{wide.U{Hi: 5, Lo: 9}, 1, wide.U{Hi: 5, Lo: 9}, 0},
		{wide.U{Hi: 5, Lo: 9}, 2, wide.U{Hi: 2, Lo: top | 4}, 1},
		{wide.U{Hi: 5, Lo: 9}, 5, wide.U{Hi: 1, Lo: 1}, 4},
		{wide.U{Hi: full, Lo: full}, 1, wide.U{Hi: full, Lo: full}, 0},
		{wide.U{Hi: full, Lo: full}, full, wide.U{Hi: 1, Lo: 1}, 0},
		{wide.U{Hi: full - 1, Lo: full}, full, wide.U{Hi: 0, Lo: full}, full - 1},
		{wide.U{Hi: full, Lo: 0}, full, wide.U{Hi: 1, Lo: 0}, 0},
		{wide.U{Hi: top, Lo: 0}, top, wide.U{Hi: 1, Lo: 0}, 0},
	} {
		if got, left, err := c.x.Div(c.d); got != c.want || left != c.left || err != api.OK {
			t.Errorf("%v.Div(%d) = %v, %d, %d; want %v, %d, 0", c.x, c.d, got, left, err, c.want, c.left)
		}
	}
}

// P2.3: the greatest number whose square is at most x.
func TestRoot(t *testing.T) {
	for _, x := range numbers() {
		if got, want := x.Root(), new(big.Int).Sqrt(exact(x)).Uint64(); got != want {
			t.Errorf("%v.Root() = %d; want %d", x, got, want)
		}
	}
}

// P2.3: the root of a square is its number, and so it is up to the next square, which it is not yet.
func TestRootAroundSquares(t *testing.T) {
	for _, r := range append(words(), scattered(1000)...) {
		square := new(big.Int).Mul(word(r), word(r))
		if got := wrapped(square).Root(); got != r {
			t.Errorf("Root of the square of %d = %d", r, got)
		}
		last := new(big.Int).Add(square, new(big.Int).Lsh(word(r), 1))
		if got := wrapped(last).Root(); got != r {
			t.Errorf("Root ahead of the next square behind that of %d = %d", r, got)
		}
		if r == 0 {
			continue
		}
		if got := wrapped(square.Sub(square, big.NewInt(1))).Root(); got != r-1 {
			t.Errorf("Root below the square of %d = %d", r, got)
		}
	}
}

// P2.3: roots in numbers written out.
func TestRootAtItsEdges(t *testing.T) {
	for _, c := range []struct {
		x    wide.U
		want uint64
	}{
		{wide.U{}, 0},
		{wide.U{Lo: 1}, 1},
		{wide.U{Lo: 3}, 1},
		{wide.U{Lo: 4}, 2},
		{wide.U{Lo: 8}, 2},
		{wide.U{Lo: full}, 1<<32 - 1},
		{wide.U{Hi: 1, Lo: 0}, 1 << 32},
		{wide.U{Hi: top>>1 - 1, Lo: full}, top - 1},
		{wide.U{Hi: top >> 1, Lo: 0}, top},
		{wide.U{Hi: full - 1, Lo: 0}, full - 1},
		{wide.U{Hi: full - 1, Lo: 1}, full},
		{wide.U{Hi: full, Lo: full}, full},
	} {
		if got := c.x.Root(); got != c.want {
			t.Errorf("%v.Root() = %d; want %d", c.x, got, c.want)
		}
	}
}
