package span_test

import (
	"math"
	"math/big"
	"testing"

	"odograph/api"
	"odograph/span"
)

const (
	least = math.MinInt64
	most  = math.MaxInt64
)

type (
	sp  = span.Span
	end = *big.Int
)

// few is a bound of small numbers, far is one that no result of them reaches.
const (
	few = 4
	far = 3 * few
)

// smallSpans are all spans of small ends, valid ones and others.
func smallSpans() []sp {
	var l []sp
	for lo := int64(-few); lo <= few; lo++ {
		for hi := int64(-few); hi <= few; hi++ {
			l = append(l, sp{lo, hi})
		}
	}
	return l
}

// edges are the numbers around which sums and products cease to fit, or signs change.
func edges() []int64 {
	return []int64{
		least, least + 1, least + 2, least / 2, least/2 - 1, -1 << 32, -7, -2, -1,
		0, 1, 2, 6, 1 << 32, most / 2, most/2 + 1, most/2 + 2, most - 2, most - 1, most,
	}
}

// scattered are numbers of all lengths, always the same ones.
func scattered(n int) []int64 {
	l := make([]int64, n)
	state := uint64(4)
	for i := range l {
		state = state*6364136223846793005 + 1442695040888963407
		mixed := state ^ state>>31
		l[i] = int64(mixed) >> (i * 5 % 64)
	}
	return l
}

// greatSpans are spans of edges and of scattered ends, valid ones and others.
func greatSpans() []sp {
	var l []sp
	for _, lo := range edges() {
		for _, hi := range edges() {
			l = append(l, sp{lo, hi})
		}
	}
	ends := scattered(120)
	for i := 0; i < len(ends); i += 2 {
		l = append(l, sp{ends[i], ends[i+1]}, sp{ends[i+1], ends[i]})
	}
	return l
}

func allSpans() []sp { return append(greatSpans(), smallSpans()...) }

func sum(a, b int64) end { return new(big.Int).Add(big.NewInt(a), big.NewInt(b)) }

func difference(a, b int64) end { return new(big.Int).Sub(big.NewInt(a), big.NewInt(b)) }

// answer is what a call of P4.2 or P4.3 is to return.
type answer struct {
	s  sp
	ok bool
}

func told(s sp, ok bool) answer { return answer{s, ok} }

func is(lo, hi int64) answer { return answer{sp{lo, hi}, true} }

func none() answer { return answer{} }

// exact is the span of these ends, if all that it comes from is valid, its ends fit, and it is valid itself.
func exact(lo, hi end, from ...sp) answer {
	for _, s := range from {
		if s.Lo > s.Hi {
			return none()
		}
	}
	if !lo.IsInt64() || !hi.IsInt64() || lo.Cmp(hi) > 0 {
		return none()
	}
	return is(lo.Int64(), hi.Int64())
}

// P4.1: one number alone.
func TestAt(t *testing.T) {
	for _, x := range append(edges(), scattered(100)...) {
		s := span.At(x)
		if s != (sp{x, x}) {
			t.Errorf("At(%d) = %v", x, s)
		}
		if !s.Right() || !s.Has(x) || x != least && s.Has(x-1) || x != most && s.Has(x+1) || s.Width() != 0 || s.Mid() != x {
			t.Errorf("At(%d) is not that number alone", x)
		}
	}
}

// P4.1: whether a span is valid, and which numbers it contains: none, if it is not.
func TestRightAndHas(t *testing.T) {
	numbers := append(edges(), scattered(40)...)
	for x := int64(-far); x <= far; x++ {
		numbers = append(numbers, x)
	}
	for _, s := range allSpans() {
		if got, want := s.Right(), !(s.Lo > s.Hi); got != want {
			t.Errorf("%v.Right() = %t", s, got)
		}
		for _, x := range numbers {
			want := !(x < s.Lo || x > s.Hi)
			if got := s.Has(x); got != want {
				t.Errorf("%v.Has(%d) = %t", s, x, got)
			}
			if want && !s.Right() {
				t.Errorf("%v has %d, but is not valid", s, x)
			}
		}
	}
}

// P4.1: t contains every number of s, also where s has none.
func TestIn(t *testing.T) {
	for _, s := range smallSpans() {
		for _, o := range smallSpans() {
			want := true
			for x := int64(-far); x <= far; x++ {
				want = want && (!s.Has(x) || o.Has(x))
			}
			if got := s.In(o); got != want {
				t.Errorf("%v.In(%v) = %t", s, o, got)
			}
		}
	}
	for _, c := range []struct {
		s, o sp
		want bool
	}{
		{sp{3, 5}, sp{3, 5}, true},
		{sp{3, 5}, sp{2, 5}, true},
		{sp{3, 5}, sp{3, 6}, true},
		{sp{3, 5}, sp{4, 5}, false},
		{sp{3, 5}, sp{3, 4}, false},
		{sp{3, 5}, sp{6, 9}, false},
		{sp{3, 5}, sp{5, 3}, false},
		{sp{5, 3}, sp{8, 9}, true},
		{sp{5, 3}, sp{9, 8}, true},
		{sp{most, least}, sp{0, 0}, true},
		{sp{0, 0}, sp{most, least}, false},
		{sp{least, most}, sp{least, most}, true},
		{sp{least, most}, sp{least + 1, most}, false},
		{sp{least, most}, sp{least, most - 1}, false},
		{sp{-1, 1}, sp{least, most}, true},
	} {
		if got := c.s.In(c.o); got != c.want {
			t.Errorf("%v.In(%v) = %t", c.s, c.o, got)
		}
	}
}

// P4.1: Hi - Lo, also where it does not fit with a sign; 0, if the span is not valid.
func TestWidth(t *testing.T) {
	for _, s := range allSpans() {
		want := uint64(0)
		if s.Lo <= s.Hi {
			want = difference(s.Hi, s.Lo).Uint64()
		}
		if got := s.Width(); got != want {
			t.Errorf("%v.Width() = %d; want %d", s, got, want)
		}
	}
	for _, c := range []struct {
		s    sp
		want uint64
	}{
		{sp{3, 8}, 5}, {sp{-3, 8}, 11}, {sp{-8, -3}, 5}, {sp{4, 4}, 0}, {sp{5, 4}, 0},
		{sp{most, least}, 0}, {sp{1, least}, 0}, {sp{least, most}, 1<<64 - 1},
		{sp{least, 0}, 1 << 63}, {sp{-1, most}, 1 << 63}, {sp{0, most}, most},
	} {
		if got := c.s.Width(); got != c.want {
			t.Errorf("%v.Width() = %d; want %d", c.s, got, c.want)
		}
	}
}

// P4.1: half of the sum of both ends, rounded down, also if the span is not valid.
func TestMid(t *testing.T) {
	for _, s := range allSpans() {
		// A shift of a big number rounds down, also below 0.
		half := sum(s.Lo, s.Hi)
		if got, want := s.Mid(), half.Rsh(half, 1).Int64(); got != want {
			t.Errorf("%v.Mid() = %d; want %d", s, got, want)
		}
	}
	for _, c := range []struct {
		s    sp
		want int64
	}{
		{sp{3, 8}, 5}, {sp{-8, -3}, -6}, {sp{-1, 0}, -1}, {sp{8, 3}, 5}, {sp{0, -1}, -1},
		{sp{least, most}, -1}, {sp{most, most}, most}, {sp{least, least}, least}, {sp{most, least}, -1},
	} {
		if got := c.s.Mid(); got != c.want {
			t.Errorf("%v.Mid() = %d; want %d", c.s, got, c.want)
		}
	}
}

// P4.2: sums and differences, if both spans are valid and the ends fit.
func TestAddAndSub(t *testing.T) {
	try := func(s, o sp) {
		want := exact(sum(s.Lo, o.Lo), sum(s.Hi, o.Hi), s, o)
		if got := told(s.Add(o)); got != want {
			t.Errorf("%v.Add(%v) = %v; want %v", s, o, got, want)
		}
		want = exact(difference(s.Lo, o.Hi), difference(s.Hi, o.Lo), s, o)
		if got := told(s.Sub(o)); got != want {
			t.Errorf("%v.Sub(%v) = %v; want %v", s, o, got, want)
		}
	}
	for _, l := range [][]sp{smallSpans(), greatSpans()} {
		for _, s := range l {
			for _, o := range l {
				try(s, o)
			}
		}
	}
}

// P4.2: no sum and no difference of numbers of both is lost, and no end is without one.
func TestAddAndSubHaveAllNumbers(t *testing.T) {
	for _, s := range smallSpans() {
		for _, o := range smallSpans() {
			if !s.Right() || !o.Right() {
				continue
			}
			sums, differences := sp{most, least}, sp{most, least}
			for x := s.Lo; x <= s.Hi; x++ {
				for y := o.Lo; y <= o.Hi; y++ {
					sums = sp{min(sums.Lo, x+y), max(sums.Hi, x+y)}
					differences = sp{min(differences.Lo, x-y), max(differences.Hi, x-y)}
				}
			}
			if got := told(s.Add(o)); got != (answer{sums, true}) {
				t.Errorf("%v.Add(%v) = %v; want %v", s, o, got, sums)
			}
			if got := told(s.Sub(o)); got != (answer{differences, true}) {
				t.Errorf("%v.Sub(%v) = %v; want %v", s, o, got, differences)
			}
		}
	}
}

// P4.2: where a sum or a difference ceases to be one, in numbers written out.
func TestAddAndSubAtTheirEdges(t *testing.T) {
	for _, c := range []struct {
		s, o     sp
		add, sub answer
	}{
		{sp{1, 4}, sp{10, 20}, is(11, 24), is(-19, -6)},
		{sp{-3, 2}, sp{-5, -1}, is(-8, 1), is(-2, 7)},
		{sp{7, 7}, sp{7, 7}, is(14, 14), is(0, 0)},
		{sp{4, 1}, sp{0, 20}, none(), none()},
		{sp{0, 20}, sp{4, 1}, none(), none()},
		{sp{4, 1}, sp{4, 1}, none(), none()},
		{sp{most, least}, sp{0, 0}, none(), none()},
		{sp{0, 0}, sp{most, least}, none(), none()},
		{sp{0, most}, sp{0, 0}, is(0, most), is(0, most)},
		{sp{0, most}, sp{0, 1}, none(), is(-1, most)},
		{sp{0, most}, sp{-1, 0}, is(-1, most), none()},
		{sp{least, 0}, sp{-1, 0}, none(), is(least, 1)},
		{sp{least, 0}, sp{0, 1}, is(least, 1), none()},
		{sp{least, most}, sp{0, 0}, is(least, most), is(least, most)},
		{sp{least, most}, sp{1, 1}, none(), none()},
		{sp{least, -1}, sp{least, -1}, none(), is(least+1, most)},
		{sp{0, 0}, sp{least, least}, is(least, least), none()},
		{sp{-1, -1}, sp{least, least}, none(), is(most, most)},
		{sp{0, most}, sp{0, most}, none(), is(-most, most)},
	} {
		if got := told(c.s.Add(c.o)); got != c.add {
			t.Errorf("%v.Add(%v) = %v; want %v", c.s, c.o, got, c.add)
		}
		if got := told(c.s.Sub(c.o)); got != c.sub {
			t.Errorf("%v.Sub(%v) = %v; want %v", c.s, c.o, got, c.sub)
		}
	}
}

// P4.2: from Lo - far to Hi + far, if the span is valid, the ends fit, and the result is valid.
func TestGrowAndAround(t *testing.T) {
	distances := append(edges(), scattered(40)...)
	for d := int64(-far); d <= far; d++ {
		distances = append(distances, d)
	}
	for _, s := range allSpans() {
		for _, d := range distances {
			want := exact(difference(s.Lo, d), sum(s.Hi, d), s)
			if got := told(s.Grow(d)); got != want {
				t.Errorf("%v.Grow(%d) = %v; want %v", s, d, got, want)
			}
		}
	}
	for _, x := range distances {
		for _, d := range distances {
			want := exact(difference(x, d), sum(x, d))
			if got := told(span.Around(x, d)); got != want {
				t.Errorf("Around(%d, %d) = %v; want %v", x, d, got, want)
			}
		}
	}
}

// P4.2: where a span ceases to grow, or to shrink, in numbers written out.
func TestGrowAtItsEdges(t *testing.T) {
	for _, c := range []struct {
		s    sp
		d    int64
		want answer
	}{
		{sp{3, 5}, 2, is(1, 7)},
		{sp{3, 5}, 0, is(3, 5)},
		{sp{3, 5}, -1, is(4, 4)},
		{sp{3, 5}, -2, none()},
		{sp{3, 6}, -1, is(4, 5)},
		{sp{3, 6}, -2, none()},
		{sp{5, 3}, 4, none()},
		{sp{5, 3}, 0, none()},
		{sp{5, 3}, -1, none()},
		{sp{most, least}, least, none()},
		{sp{0, most - 2}, 2, is(-2, most)},
		{sp{0, most - 2}, 3, none()},
		{sp{least + 2, 0}, 2, is(least, 2)},
		{sp{least + 2, 0}, 3, none()},
		{sp{-1, 0}, most, is(least, most)},
		{sp{0, 0}, most, is(-most, most)},
		{sp{-1, 1}, most, none()},
		{sp{-2, 0}, most, none()},
		// -far does not fit, but the ends do; they are not in order, though.
		{sp{-1, 0}, least, none()},
		{sp{least, most}, least, none()},
		{sp{least, most}, -most, is(-1, 0)},
		{sp{0, 0}, least, none()},
		{sp{least, most}, 0, is(least, most)},
		{sp{least, most}, 1, none()},
	} {
		if got := told(c.s.Grow(c.d)); got != c.want {
			t.Errorf("%v.Grow(%d) = %v; want %v", c.s, c.d, got, c.want)
		}
	}
	for _, c := range []struct {
		x, d int64
		want answer
	}{
		{7, 3, is(4, 10)}, {7, 0, is(7, 7)}, {7, -1, none()}, {-7, 3, is(-10, -4)},
		{0, most, is(-most, most)}, {-1, most, is(least, most-1)}, {1, most, none()}, {-2, most, none()},
		{most, 0, is(most, most)}, {most, 1, none()}, {least, 1, none()}, {0, least, none()}, {-1, least, none()},
	} {
		if got := told(span.Around(c.x, c.d)); got != c.want {
			t.Errorf("Around(%d, %d) = %v; want %v", c.x, c.d, got, c.want)
		}
	}
}

// P4.3: the numbers that both contain, and true, if there is one.
func TestMeet(t *testing.T) {
	for _, s := range smallSpans() {
		for _, o := range smallSpans() {
			want := none()
			for x := int64(-far); x <= far; x++ {
				if !s.Has(x) || !o.Has(x) {
					continue
				}
				if !want.ok {
					want = is(x, x)
				}
				want.s.Hi = x
			}
			if got := told(s.Meet(o)); got != want {
				t.Errorf("%v.Meet(%v) = %v; want %v", s, o, got, want)
			}
		}
	}
	for _, c := range []struct {
		s, o sp
		want answer
	}{
		{sp{1, 5}, sp{3, 9}, is(3, 5)},
		{sp{1, 9}, sp{3, 5}, is(3, 5)},
		{sp{1, 3}, sp{3, 5}, is(3, 3)},
		{sp{1, 3}, sp{4, 5}, none()},
		{sp{1, 3}, sp{7, 9}, none()},
		{sp{5, 3}, sp{1, 9}, none()},
		{sp{5, 3}, sp{5, 3}, none()},
		{sp{0, 0}, sp{1, 1}, none()},
		{sp{0, 0}, sp{0, 0}, is(0, 0)},
		{sp{least, most}, sp{least, most}, is(least, most)},
		{sp{least, most}, sp{most, most}, is(most, most)},
		{sp{least, -1}, sp{0, most}, none()},
		{sp{most, least}, sp{least, most}, none()},
	} {
		if got := told(c.s.Meet(c.o)); got != c.want {
			t.Errorf("%v.Meet(%v) = %v; want %v", c.s, c.o, got, c.want)
		}
		if got := told(c.o.Meet(c.s)); got != c.want {
			t.Errorf("%v.Meet(%v) = %v; want %v", c.o, c.s, got, c.want)
		}
	}
}

// P4.3: the least span that contains all numbers of both valid spans.
func TestHull(t *testing.T) {
	for _, s := range smallSpans() {
		for _, o := range smallSpans() {
			got := s.Hull(o)
			if s.Right() && o.Right() {
				if want := (sp{min(s.Lo, o.Lo), max(s.Hi, o.Hi)}); got != want {
					t.Errorf("%v.Hull(%v) = %v; want %v", s, o, got, want)
				}
			}
			if !s.In(got) || !o.In(got) {
				t.Errorf("%v.Hull(%v) = %v, which lacks a number", s, o, got)
			}
		}
	}
	for _, c := range []struct{ s, o, want sp }{
		{sp{1, 3}, sp{7, 9}, sp{1, 9}},
		{sp{7, 9}, sp{1, 3}, sp{1, 9}},
		{sp{1, 9}, sp{3, 5}, sp{1, 9}},
		{sp{3, 5}, sp{1, 9}, sp{1, 9}},
		{sp{-5, 2}, sp{-1, 6}, sp{-5, 6}},
		{sp{least, least}, sp{most, most}, sp{least, most}},
	} {
		if got := c.s.Hull(c.o); got != c.want {
			t.Errorf("%v.Hull(%v) = %v; want %v", c.s, c.o, got, c.want)
		}
	}
}

// P4.3: if one of them is not valid, the hull is the other one, and so not valid either if both are not.
func TestHullOfSpansThatAreNotValid(t *testing.T) {
	for _, s := range allSpans() {
		for _, wrong := range []sp{{1, 0}, {20, -20}, {most, least}, {least + 1, least}, {most, most - 1}} {
			for _, got := range []sp{s.Hull(wrong), wrong.Hull(s)} {
				if got != s && (s.Right() || got != wrong) {
					t.Errorf("hull of %v and %v = %v", s, wrong, got)
				}
			}
		}
	}
}

// product is what Times is to return.
type product struct {
	s   sp
	err api.Errno
}

func toldProduct(s sp, err api.Errno) product { return product{s, err} }

func isProduct(lo, hi int64) product { return product{sp{lo, hi}, api.OK} }

// rounded is k x / by, rounded down and rounded up.
func rounded(k, x, by int64) (end, end) {
	// DivMod rounds down where the divisor is positive.
	exact := new(big.Int).Mul(big.NewInt(k), big.NewInt(x))
	down, left := new(big.Int).DivMod(exact, big.NewInt(by), new(big.Int))
	if left.Sign() == 0 {
		return down, down
	}
	return down, new(big.Int).Add(down, big.NewInt(1))
}

// exactProduct is the least span of all products of both ends of s.
func exactProduct(s sp, k, by int64) product {
	if s.Lo > s.Hi || by < 1 {
		return product{sp{}, api.ErrRange}
	}
	lo, hi := rounded(k, s.Lo, by)
	otherLo, otherHi := rounded(k, s.Hi, by)
	if otherLo.Cmp(lo) < 0 {
		lo = otherLo
	}
	if otherHi.Cmp(hi) > 0 {
		hi = otherHi
	}
	if !lo.IsInt64() || !hi.IsInt64() {
		return product{sp{}, api.ErrOver}
	}
	return isProduct(lo.Int64(), hi.Int64())
}

// P4.4: the span of all products, rounded outwards; or the error.
func TestTimes(t *testing.T) {
	for _, s := range greatSpans() {
		for _, k := range edges() {
			for _, by := range edges() {
				if got, want := toldProduct(s.Times(k, by)), exactProduct(s, k, by); got != want {
					t.Errorf("%v.Times(%d, %d) = %v; want %v", s, k, by, got, want)
				}
			}
		}
	}
	for _, s := range smallSpans() {
		for k := int64(-9); k <= 9; k++ {
			for by := int64(-2); by <= 7; by++ {
				if got, want := toldProduct(s.Times(k, by)), exactProduct(s, k, by); got != want {
					t.Errorf("%v.Times(%d, %d) = %v; want %v", s, k, by, got, want)
				}
			}
		}
	}
}

// P4.4: k x / by is in the span for each x, and in no lesser one.
func TestTimesHasAllProducts(t *testing.T) {
	for _, s := range smallSpans() {
		if !s.Right() {
			continue
		}
		for k := int64(-9); k <= 9; k++ {
			for by := int64(1); by <= 7; by++ {
				got, err := s.Times(k, by)
				if err != api.OK {
					t.Errorf("%v.Times(%d, %d) = %d", s, k, by, err)
				}
				without, withoutHi := true, true
				for x := s.Lo; x <= s.Hi; x++ {
					if k*x < got.Lo*by || k*x > got.Hi*by {
						t.Errorf("%v.Times(%d, %d) = %v, which lacks that of %d", s, k, by, got, x)
					}
					without = without && k*x >= (got.Lo+1)*by
					withoutHi = withoutHi && k*x <= (got.Hi-1)*by
				}
				if without || withoutHi {
					t.Errorf("%v.Times(%d, %d) = %v, which is not the least one", s, k, by, got)
				}
			}
		}
	}
}

// P4.4: each sign's rounding, what is refused, and where an end ceases to fit, in numbers written out.
func TestTimesAtItsEdges(t *testing.T) {
	refused, over := product{sp{}, api.ErrRange}, product{sp{}, api.ErrOver}
	for _, c := range []struct {
		s     sp
		k, by int64
		want  product
	}{
		{sp{3, 5}, -3, 2, isProduct(-8, -4)},
		{sp{3, 5}, 3, 2, isProduct(4, 8)},
		{sp{-5, -3}, 3, 2, isProduct(-8, -4)},
		{sp{-5, -3}, -3, 2, isProduct(4, 8)},
		{sp{-3, 5}, -3, 2, isProduct(-8, 5)},
		{sp{4, 6}, -3, 2, isProduct(-9, -6)},
		{sp{3, 5}, 0, 2, isProduct(0, 0)},
		{sp{least, most}, 0, 1, isProduct(0, 0)},
		{sp{3, 3}, 1, 2, isProduct(1, 2)},
		{sp{3, 5}, 1, 0, refused},
		{sp{3, 5}, 1, -1, refused},
		{sp{3, 5}, 1, least, refused},
		{sp{5, 3}, 1, 1, refused},
		{sp{5, 3}, 1, 0, refused},
		{sp{5, 3}, 0, 1, refused},
		{sp{5, 3}, -1, 1, refused},
		{sp{least, most}, most, 0, refused},
		{sp{most, least}, most, 1, refused},
		{sp{least, most}, 1, 1, isProduct(least, most)},
		{sp{least, most}, -1, 1, over},
		{sp{-most, most}, -1, 1, isProduct(-most, most)},
		{sp{least, 0}, -1, 1, over},
		{sp{least, 0}, -1, 2, isProduct(0, 1<<62)},
		{sp{0, most}, 2, 1, over},
		{sp{least, 0}, 2, 1, over},
		{sp{0, most}, -2, 1, over},
		{sp{least, most}, most, most, isProduct(least, most)},
		{sp{least, most}, least, most, over},
		{sp{-most, most}, least, most, over},
		{sp{1 - most, most - 1}, least, most, isProduct(-most, most)},
		// 2^63 less a half, (2^32 - 1) (2^32 + 1) / 2: only its rounding up does not fit.
		{sp{0, 1<<32 + 1}, 1<<32 - 1, 2, over},
		{sp{-1<<32 - 1, 0}, 1<<32 - 1, 2, isProduct(least, 0)},
		{sp{-1<<32 - 1, 0}, 1 - 1<<32, 2, over},
		{sp{0, 1<<32 + 1}, 1 - 1<<32, 2, isProduct(least, 0)},
	} {
		if got := toldProduct(c.s.Times(c.k, c.by)); got != c.want {
			t.Errorf("%v.Times(%d, %d) = %v; want %v", c.s, c.k, c.by, got, c.want)
		}
	}
}
