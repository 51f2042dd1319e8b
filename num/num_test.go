package num_test

import (
	"math"
	"math/big"
	"testing"

	"odograph/num"
)

// edges are the numbers around which sums and products cease to fit, or signs change.
func edges() []int64 {
	l := []int64{math.MinInt64, math.MaxInt64}
	for i := int64(1); i <= 3; i++ {
		l = append(l, math.MinInt64+i, math.MaxInt64-i)
	}
	for i := int64(-4); i <= 4; i++ {
		l = append(l, i)
	}
	for _, e := range []uint{31, 32, 33, 61, 62} {
		for i := int64(-1); i <= 1; i++ {
			l = append(l, 1<<e+i, -(1<<e)+i)
		}
	}
	// The greatest number whose square fits, and its next one; thirds of the greatest number.
	for _, x := range []int64{3037000499, 3037000500, math.MaxInt64 / 3, math.MaxInt64/3 + 1, math.MinInt64 / 3, math.MinInt64/3 - 1} {
		l = append(l, x, -x)
	}
	return l
}

// scattered are numbers of all lengths, always the same ones.
func scattered(n int) []int64 {
	l := make([]int64, n)
	state := uint64(1)
	for i := range l {
		state = state*6364136223846793005 + 1442695040888963407
		mixed := state ^ state>>31
		l[i] = int64(mixed) >> (i % 64)
	}
	return l
}

// pairs calls f with pairs of small numbers, of edges, and of scattered ones.
func pairs(f func(a, b int64)) {
	for a := int64(-20); a <= 20; a++ {
		for b := int64(-20); b <= 20; b++ {
			f(a, b)
		}
	}
	l := append(edges(), scattered(200)...)
	for _, a := range l {
		for _, b := range l {
			f(a, b)
		}
	}
}

// fitting is a number and true, if it is one of 64 bits; else 0 and false.
func fitting(x *big.Int) (int64, bool) {
	if x.IsInt64() {
		return x.Int64(), true
	}
	return 0, false
}

// nearest is the number of 64 bits that is nearest to another one.
func nearest(x *big.Int) int64 {
	if x.IsInt64() {
		return x.Int64()
	}
	if x.Sign() < 0 {
		return math.MinInt64
	}
	return math.MaxInt64
}

type pairCall struct {
	name    string
	checked func(a, b int64) (int64, bool)
	held    func(a, b int64) int64
	exact   func(z, a, b *big.Int) *big.Int
}

func pairCalls() []pairCall {
	return []pairCall{
		{"Add", num.Add, num.AddSat, (*big.Int).Add},
		{"Sub", num.Sub, num.SubSat, (*big.Int).Sub},
		{"Mul", num.Mul, num.MulSat, (*big.Int).Mul},
	}
}

// P1.1: the sum, the difference and the product, if they fit.
func TestPairsAreExactOrRefused(t *testing.T) {
	for _, c := range pairCalls() {
		pairs(func(a, b int64) {
			want, wantOk := fitting(c.exact(new(big.Int), big.NewInt(a), big.NewInt(b)))
			if got, ok := c.checked(a, b); got != want || ok != wantOk {
				t.Errorf("%s(%d, %d) = %d, %t; want %d, %t", c.name, a, b, got, ok, want, wantOk)
			}
		})
	}
}

// P1.2: the number that fits and is nearest to the sum, the difference and the product.
func TestPairsAreHeldAtTheNearest(t *testing.T) {
	for _, c := range pairCalls() {
		pairs(func(a, b int64) {
			want := nearest(c.exact(new(big.Int), big.NewInt(a), big.NewInt(b)))
			if got := c.held(a, b); got != want {
				t.Errorf("%sSat(%d, %d) = %d; want %d", c.name, a, b, got, want)
			}
		})
	}
}

// P1.1: where each of them begins not to fit, in numbers written out.
func TestPairsAtTheirEdges(t *testing.T) {
	const least, most = math.MinInt64, math.MaxInt64
	for _, c := range []struct {
		name       string
		call       func(a, b int64) (int64, bool)
		a, b, want int64
		ok         bool
	}{
		{"Add", num.Add, 2, 3, 5, true},
		{"Add", num.Add, most, 0, most, true},
		{"Add", num.Add, most, 1, 0, false},
		{"Add", num.Add, 1, most, 0, false},
		{"Add", num.Add, most, most, 0, false},
		{"Add", num.Add, least, most, -1, true},
		{"Add", num.Add, least, 0, least, true},
		{"Add", num.Add, least, -1, 0, false},
		{"Add", num.Add, least, least, 0, false},
		{"Sub", num.Sub, 2, 3, -1, true},
		{"Sub", num.Sub, 0, most, -most, true},
		{"Sub", num.Sub, 0, least, 0, false},
		{"Sub", num.Sub, -1, least, most, true},
		{"Sub", num.Sub, -2, most, 0, false},
		{"Sub", num.Sub, -1, most, least, true},
		{"Sub", num.Sub, least, least, 0, true},
		{"Sub", num.Sub, least, 1, 0, false},
		{"Sub", num.Sub, most, -1, 0, false},
		{"Mul", num.Mul, -6, 7, -42, true},
		{"Mul", num.Mul, 0, least, 0, true},
		{"Mul", num.Mul, least, 0, 0, true},
		{"Mul", num.Mul, least, 1, least, true},
		{"Mul", num.Mul, 1, least, least, true},
		{"Mul", num.Mul, least, -1, 0, false},
		{"Mul", num.Mul, -1, least, 0, false},
		{"Mul", num.Mul, -1, most, -most, true},
		{"Mul", num.Mul, 1 << 32, 1 << 31, 0, false},
		{"Mul", num.Mul, 1 << 32, -1 << 31, least, true},
		{"Mul", num.Mul, 1 << 32, 1 << 32, 0, false},
		{"Mul", num.Mul, 3037000499, 3037000499, 9223372030926249001, true},
		{"Mul", num.Mul, 3037000500, 3037000500, 0, false},
		{"Mul", num.Mul, least, least, 0, false},
	} {
		if got, ok := c.call(c.a, c.b); got != c.want || ok != c.ok {
			t.Errorf("%s(%d, %d) = %d, %t; want %d, %t", c.name, c.a, c.b, got, ok, c.want, c.ok)
		}
	}
}

// P1.2: at which end each of them is held, in numbers written out.
func TestHeldAtTheirEdges(t *testing.T) {
	const least, most = math.MinInt64, math.MaxInt64
	for _, c := range []struct {
		name       string
		call       func(a, b int64) int64
		a, b, want int64
	}{
		{"AddSat", num.AddSat, 2, -3, -1},
		{"AddSat", num.AddSat, most, 1, most},
		{"AddSat", num.AddSat, most, most, most},
		{"AddSat", num.AddSat, least, -1, least},
		{"AddSat", num.AddSat, least, least, least},
		{"AddSat", num.AddSat, least, most, -1},
		{"SubSat", num.SubSat, 2, -3, 5},
		{"SubSat", num.SubSat, 0, least, most},
		{"SubSat", num.SubSat, -1, least, most},
		{"SubSat", num.SubSat, most, least, most},
		{"SubSat", num.SubSat, least, 1, least},
		{"SubSat", num.SubSat, least, most, least},
		{"SubSat", num.SubSat, least, least, 0},
		{"MulSat", num.MulSat, -2, 3, -6},
		{"MulSat", num.MulSat, 0, least, 0},
		{"MulSat", num.MulSat, least, 0, 0},
		{"MulSat", num.MulSat, least, -1, most},
		{"MulSat", num.MulSat, -1, least, most},
		{"MulSat", num.MulSat, least, 2, least},
		{"MulSat", num.MulSat, 2, least, least},
		{"MulSat", num.MulSat, most, -2, least},
		{"MulSat", num.MulSat, most, 2, most},
		{"MulSat", num.MulSat, least, least, most},
	} {
		if got := c.call(c.a, c.b); got != c.want {
			t.Errorf("%s(%d, %d) = %d; want %d", c.name, c.a, c.b, got, c.want)
		}
	}
}

// P1.1: 0 - a and the absolute value, if they fit; the absolute value without a sign; the sign.
func TestOneNumber(t *testing.T) {
	for _, a := range append(edges(), scattered(1000)...) {
		exact := big.NewInt(a)
		want, wantOk := fitting(new(big.Int).Neg(exact))
		if got, ok := num.Neg(a); got != want || ok != wantOk {
			t.Errorf("Neg(%d) = %d, %t; want %d, %t", a, got, ok, want, wantOk)
		}
		size := new(big.Int).Abs(exact)
		want, wantOk = fitting(size)
		if got, ok := num.Abs(a); got != want || ok != wantOk {
			t.Errorf("Abs(%d) = %d, %t; want %d, %t", a, got, ok, want, wantOk)
		}
		if got := num.Size(a); got != size.Uint64() {
			t.Errorf("Size(%d) = %d; want %d", a, got, size)
		}
		if got := num.Sign(a); got != exact.Sign() {
			t.Errorf("Sign(%d) = %d; want %d", a, got, exact.Sign())
		}
	}
}

// P1.1: the least number has no counterpart that fits, but a size.
func TestLeastNumber(t *testing.T) {
	if got, ok := num.Neg(math.MinInt64); got != 0 || ok {
		t.Errorf("Neg: %d, %t", got, ok)
	}
	if got, ok := num.Abs(math.MinInt64); got != 0 || ok {
		t.Errorf("Abs: %d, %t", got, ok)
	}
	if got := num.Size(math.MinInt64); got != 1<<63 {
		t.Errorf("Size: %d", got)
	}
	if got, ok := num.Neg(math.MaxInt64); got != -math.MaxInt64 || !ok {
		t.Errorf("Neg of the greatest: %d, %t", got, ok)
	}
	if got, ok := num.Abs(-math.MaxInt64); got != math.MaxInt64 || !ok {
		t.Errorf("Abs of the next one: %d, %t", got, ok)
	}
}

// P1.2: the greatest integer that is at most half of the sum.
func TestMid(t *testing.T) {
	pairs(func(a, b int64) {
		// A shift of a big number rounds down, also below 0.
		sum := new(big.Int).Add(big.NewInt(a), big.NewInt(b))
		if got, want := num.Mid(a, b), sum.Rsh(sum, 1).Int64(); got != want {
			t.Errorf("Mid(%d, %d) = %d; want %d", a, b, got, want)
		}
	})
	for _, c := range [][3]int64{
		{-1, 0, -1}, {0, -1, -1}, {3, 6, 4}, {-3, -6, -5}, {5, 5, 5}, {-3, 2, -1},
		{math.MinInt64, math.MaxInt64, -1},
		{math.MaxInt64, math.MaxInt64, math.MaxInt64},
		{math.MinInt64, math.MinInt64, math.MinInt64},
		{math.MaxInt64, math.MaxInt64 - 1, math.MaxInt64 - 1},
		{math.MinInt64, math.MinInt64 + 1, math.MinInt64},
	} {
		if got := num.Mid(c[0], c[1]); got != c[2] {
			t.Errorf("Mid(%d, %d) = %d; want %d", c[0], c[1], got, c[2])
		}
	}
}

// P1.2: the greater of lo and the lesser of x and hi, also where lo is above hi.
func TestClamp(t *testing.T) {
	for _, c := range [][4]int64{
		{3, 1, 5, 3}, {0, 1, 5, 1}, {9, 1, 5, 5}, {1, 1, 5, 1}, {5, 1, 5, 5}, {7, 4, 4, 4},
		{3, 5, 1, 5}, {0, 5, 1, 5}, {9, 5, 1, 5}, {-3, -1, -5, -1},
		{math.MinInt64, math.MaxInt64, math.MinInt64, math.MaxInt64},
		{math.MaxInt64, math.MinInt64, math.MinInt64, math.MinInt64},
		{0, math.MinInt64, math.MaxInt64, 0},
	} {
		if got := num.Clamp(c[0], c[1], c[2]); got != c[3] {
			t.Errorf("Clamp(%d, %d, %d) = %d; want %d", c[0], c[1], c[2], got, c[3])
		}
	}
	l := append(edges(), -7, -6, 5, 6, 7)
	for _, x := range l {
		for _, lo := range l {
			for _, hi := range l {
				if got, want := num.Clamp(x, lo, hi), clamped(x, lo, hi); got != want {
					t.Errorf("Clamp(%d, %d, %d) = %d; want %d", x, lo, hi, got, want)
				}
			}
		}
	}
}

// clamped says Clamp in other words: first hi bounds x, and then lo bounds the outcome.
func clamped(x, lo, hi int64) int64 {
	if x > hi {
		x = hi
	}
	if x < lo {
		x = lo
	}
	return x
}
