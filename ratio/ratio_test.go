package ratio_test

import (
	"math"
	"math/big"
	"testing"

	"odograph/api"
	"odograph/ratio"
)

const (
	least = math.MinInt64
	most  = math.MaxInt64
)

// edges are the numbers around which products cease to fit, or signs and roundings change.
func edges() []int64 {
	l := []int64{least, least + 1, least + 2, most, most - 1, most - 2}
	for i := int64(-5); i <= 5; i++ {
		l = append(l, i)
	}
	for _, e := range []uint{31, 32, 62} {
		for i := int64(-1); i <= 1; i++ {
			l = append(l, 1<<e+i, -(1<<e)+i)
		}
	}
	// The greatest number whose square fits, and its next one; a third of the greatest number; 10^9.
	for _, x := range []int64{3037000499, 3037000500, most / 3, 1000000000} {
		l = append(l, x, -x)
	}
	return l
}

// scattered are numbers of all lengths, always the same ones.
func scattered(n int) []int64 {
	l := make([]int64, n)
	state := uint64(3)
	for i := range l {
		state = state*6364136223846793005 + 1442695040888963407
		mixed := state ^ state>>31
		l[i] = int64(mixed) >> (i * 5 % 64)
	}
	return l
}

// pairs calls f with all pairs of small numbers, of edges, and of scattered ones.
func pairs(f func(a, b int64)) {
	l := append(edges(), scattered(200)...)
	for i := int64(6); i <= 20; i++ {
		l = append(l, i, -i)
	}
	for _, a := range l {
		for _, b := range l {
			f(a, b)
		}
	}
}

// triples calls f with all triples of small numbers, of edges, and of scattered ones.
func triples(f func(a, b, c int64)) {
	for a := int64(-8); a <= 8; a++ {
		for b := int64(-8); b <= 8; b++ {
			for c := int64(-8); c <= 8; c++ {
				f(a, b, c)
			}
		}
	}
	l := append(edges(), scattered(32)...)
	for _, a := range l {
		for _, b := range l {
			for _, c := range l {
				f(a, b, c)
			}
		}
	}
}

// bounds are the greatest integer that is at most a b / c, and the least that is at least a b / c.
func bounds(a, b, c int64) (*big.Int, *big.Int) {
	product := new(big.Int).Mul(big.NewInt(a), big.NewInt(b))
	divisor := big.NewInt(c)
	if c < 0 {
		product.Neg(product)
		divisor.Neg(divisor)
	}
	// DivMod rounds down where the divisor is positive.
	down, left := new(big.Int).DivMod(product, divisor, new(big.Int))
	up := new(big.Int).Set(down)
	if left.Sign() != 0 {
		up.Add(up, big.NewInt(1))
	}
	return down, up
}

// fitting is a number, if it is one of 64 bits; else 0 and ErrOver.
func fitting(x *big.Int) (int64, api.Errno) {
	if x.IsInt64() {
		return x.Int64(), api.OK
	}
	return 0, api.ErrOver
}

// P3.1: the integers next to a b / c, or ErrOver, or ErrZero.
func TestFloorAndCeil(t *testing.T) {
	triples(func(a, b, c int64) {
		wantDown, wantUp := int64(0), int64(0)
		errDown, errUp := api.ErrZero, api.ErrZero
		if c != 0 {
			down, up := bounds(a, b, c)
			wantDown, errDown = fitting(down)
			wantUp, errUp = fitting(up)
		}
		if got, err := ratio.Floor(a, b, c); got != wantDown || err != errDown {
			t.Errorf("Floor(%d, %d, %d) = %d, %d; want %d, %d", a, b, c, got, err, wantDown, errDown)
		}
		if got, err := ratio.Ceil(a, b, c); got != wantUp || err != errUp {
			t.Errorf("Ceil(%d, %d, %d) = %d, %d; want %d, %d", a, b, c, got, err, wantUp, errUp)
		}
	})
}

// answer is what a call is to return.
type answer struct {
	n   int64
	err api.Errno
}

func told(n int64, err api.Errno) answer { return answer{n, err} }

func number(n int64) answer { return answer{n, api.OK} }

func over() answer { return answer{0, api.ErrOver} }

// P3.1: which way each sign is rounded, in numbers written out.
func TestRounding(t *testing.T) {
	for _, c := range []struct {
		a, b, c  int64
		down, up answer
	}{
		{7, 1, 2, number(3), number(4)},
		{-7, 1, 2, number(-4), number(-3)},
		{7, -1, 2, number(-4), number(-3)},
		{7, 1, -2, number(-4), number(-3)},
		{-7, -1, 2, number(3), number(4)},
		{-7, 1, -2, number(3), number(4)},
		{7, -1, -2, number(3), number(4)},
		{-7, -1, -2, number(-4), number(-3)},
		{6, 3, 9, number(2), number(2)},
		{-6, 3, 9, number(-2), number(-2)},
		{6, 3, -9, number(-2), number(-2)},
		{1, 1, most, number(0), number(1)},
		{-1, 1, most, number(-1), number(0)},
		{1, 1, least, number(-1), number(0)},
		{-1, 1, least, number(0), number(1)},
		{0, 5, 3, number(0), number(0)},
		{5, 0, -3, number(0), number(0)},
		{0, least, least, number(0), number(0)},
	} {
		if got := told(ratio.Floor(c.a, c.b, c.c)); got != c.down {
			t.Errorf("Floor(%d, %d, %d) = %v; want %v", c.a, c.b, c.c, got, c.down)
		}
		if got := told(ratio.Ceil(c.a, c.b, c.c)); got != c.up {
			t.Errorf("Ceil(%d, %d, %d) = %v; want %v", c.a, c.b, c.c, got, c.up)
		}
	}
}

// P3.1: where an integer ceases to fit, also by its rounding alone, in numbers written out.
func TestRoundingAtItsEdges(t *testing.T) {
	for _, c := range []struct {
		a, b, c  int64
		down, up answer
	}{
		{most, 1, 1, number(most), number(most)},
		{least, 1, 1, number(least), number(least)},
		{least, -1, -1, number(least), number(least)},
		{most, -1, 1, number(-most), number(-most)},
		{least, -1, 1, over(), over()},
		{least, 1, -1, over(), over()},
		{most, most, most, number(most), number(most)},
		{least, least, least, number(least), number(least)},
		{least, least, most, over(), over()},
		{least, least, 1, over(), over()},
		{least, most, 1, over(), over()},
		{least, most, least, number(most), number(most)},
		{most, most, least, number(-most), number(1 - most)},
		{1 << 32, 1 << 31, 1, over(), over()},
		{-1 << 32, 1 << 31, 1, number(least), number(least)},
		{1 << 32, 1 << 31, 2, number(1 << 62), number(1 << 62)},
		// A quotient of 2^64 and more, whose lower half alone would fit.
		{1 << 62, 12, 3, over(), over()},
		{-1 << 62, 12, 3, over(), over()},
		{1 << 62, 1<<4 + 1, 4, over(), over()},
		// 2^63 less a half: (2^32 - 1) (2^32 + 1) / 2.
		{1<<32 - 1, 1<<32 + 1, 2, number(most), over()},
		{1 - 1<<32, 1<<32 + 1, 2, number(least), number(-most)},
		// 2^63 and a half: 274177 times 67280421310721 is 2^64 + 1.
		{274177, 67280421310721, 2, over(), over()},
		{-274177, 67280421310721, 2, over(), number(least)},
		{274177, 67280421310721, -2, over(), number(least)},
	} {
		if got := told(ratio.Floor(c.a, c.b, c.c)); got != c.down {
			t.Errorf("Floor(%d, %d, %d) = %v; want %v", c.a, c.b, c.c, got, c.down)
		}
		if got := told(ratio.Ceil(c.a, c.b, c.c)); got != c.up {
			t.Errorf("Ceil(%d, %d, %d) = %v; want %v", c.a, c.b, c.c, got, c.up)
		}
	}
}

// P3.1: a division by 0 is refused, also that of 0 and that of a product that does not fit, with nothing beside the error.
func TestDivisionByZero(t *testing.T) {
	want := answer{0, api.ErrZero}
	pairs(func(a, b int64) {
		if got := told(ratio.Floor(a, b, 0)); got != want {
			t.Errorf("Floor(%d, %d, 0) = %v", a, b, got)
		}
		if got := told(ratio.Ceil(a, b, 0)); got != want {
			t.Errorf("Ceil(%d, %d, 0) = %v", a, b, got)
		}
	})
}

// P3.2: the greatest number whose square is at most a b; ErrRange, if a factor is negative.
func TestRoot(t *testing.T) {
	pairs(func(a, b int64) {
		want := answer{0, api.ErrRange}
		if a >= 0 && b >= 0 {
			product := new(big.Int).Mul(big.NewInt(a), big.NewInt(b))
			want = number(product.Sqrt(product).Int64())
		}
		if got := told(ratio.Root(a, b)); got != want {
			t.Errorf("Root(%d, %d) = %v; want %v", a, b, got, want)
		}
	})
}

// P3.2: roots in numbers written out; a negative factor is refused, also where the product is not negative.
func TestRootAtItsEdges(t *testing.T) {
	refused := answer{0, api.ErrRange}
	for _, c := range []struct {
		a, b int64
		want answer
	}{
		{0, 0, number(0)},
		{0, most, number(0)},
		{1, 1, number(1)},
		{1, 3, number(1)},
		{2, 2, number(2)},
		{2, 4, number(2)},
		{3, 3, number(3)},
		{5, 7, number(5)},
		{6, 6, number(6)},
		{1, most, number(3037000499)},
		{1 << 32, 1 << 32, number(1 << 32)},
		{1<<32 - 1, 1<<32 + 1, number(1<<32 - 1)},
		{1 << 62, 1 << 62, number(1 << 62)},
		{1<<62 - 1, 1<<62 + 1, number(1<<62 - 1)},
		{most, most, number(most)},
		{most, most - 1, number(most - 1)},
		{-1, 4, refused},
		{4, -1, refused},
		{-4, -4, refused},
		{0, -1, refused},
		{-1, 0, refused},
		{least, most, refused},
		{most, least, refused},
		{least, least, refused},
	} {
		if got := told(ratio.Root(c.a, c.b)); got != c.want {
			t.Errorf("Root(%d, %d) = %v; want %v", c.a, c.b, got, c.want)
		}
	}
}
