package vote_test

import (
	"math"
	"slices"
	"testing"

	"odograph/span"
	"odograph/vote"
)

const (
	least = math.MinInt64
	most  = math.MaxInt64
)

type (
	sp   = span.Span
	ends [2]int64
)

func of(lo, hi int64) sp { return sp{Lo: lo, Hi: hi} }

func spans(l []ends) []sp {
	var all []sp
	for _, e := range l {
		all = append(all, of(e[0], e[1]))
	}
	return all
}

// few is a bound of small numbers.
const few = 3

// smallSpans are all spans of small ends, valid ones and others.
func smallSpans() []sp {
	var l []sp
	for lo := int64(-few); lo <= few; lo++ {
		for hi := int64(-few); hi <= few; hi++ {
			l = append(l, of(lo, hi))
		}
	}
	return l
}

// edgeSpans are all spans of ends around which numbers cease to fit, or signs change, valid ones and others.
func edgeSpans() []sp {
	numbers := []int64{least, least + 1, -1, 0, 1, most - 1, most}
	var l []sp
	for _, lo := range numbers {
		for _, hi := range numbers {
			l = append(l, of(lo, hi))
		}
	}
	return l
}

// scatter is a row of numbers of all lengths, always the same one.
type scatter uint64

func (s *scatter) next() int64 {
	*s = *s*6364136223846793005 + 1442695040888963407
	mixed := uint64(*s ^ *s>>31)
	return int64(mixed) >> (mixed >> 7 % 64)
}

// span is a valid span of two of its numbers, or, in one of eight cases, one of any order.
func (s *scatter) span() sp {
	a, b, turn := s.next(), s.next(), s.next()
	if turn&7 != 0 {
		a, b = min(a, b), max(a, b)
	}
	return of(a, b)
}

// lists calls f with lists of no span, of one to three small spans or of edges, in all combinations, and of more, scattered ones.
func lists(f func(l []sp)) {
	f(nil)
	f([]sp{})
	for _, all := range [][]sp{smallSpans(), edgeSpans()} {
		for _, a := range all {
			f([]sp{a})
			for _, b := range all {
				f([]sp{a, b})
				for _, c := range all {
					f([]sp{a, b, c})
				}
			}
		}
	}
	row := scatter(5)
	for range 20000 {
		l := make([]sp, 3+row.next()&7)
		for i := range l {
			l[i] = row.span()
			if row.next()&1 != 0 {
				// Narrow ones near one another, so that there are gaps between them.
				at := row.next() & 31
				l[i] = of(at, at+row.next()&7-1)
			}
		}
		f(l)
	}
}

// answer is what Common or Two is to return.
type answer struct {
	s  sp
	ok bool
}

func told(s sp, ok bool) answer { return answer{s, ok} }

func is(lo, hi int64) answer { return answer{of(lo, hi), true} }

func none() answer { return answer{} }

// many is how many of the spans contain x.
func many(l []sp, x int64) int {
	n := 0
	for _, s := range l {
		if s.Lo <= x && x <= s.Hi {
			n++
		}
	}
	return n
}

// held is the least span of all numbers that so many of the spans contain, at least one: the least of these numbers begins a span, the greatest one ends one.
func held(l []sp, by int) answer {
	got := none()
	for _, s := range l {
		for _, x := range []int64{s.Lo, s.Hi} {
			if many(l, x) < by {
				continue
			}
			if !got.ok {
				got = is(x, x)
			}
			got.s = of(min(got.s.Lo, x), max(got.s.Hi, x))
		}
	}
	return got
}

// P5.1: what all spans contain, and what two or more do.
func TestCommonAndTwo(t *testing.T) {
	lists(func(l []sp) {
		if got, want := told(vote.Common(l...)), held(l, max(len(l), 1)); got != want {
			t.Errorf("Common(%v) = %v; want %v", l, got, want)
		}
		if got, want := told(vote.Two(l...)), held(l, 2); got != want {
			t.Errorf("Two(%v) = %v; want %v", l, got, want)
		}
	})
}

// P5.1: number by number: Common has those that all have, and no other; Two all those that two have, and so has each of its ends.
func TestCommonAndTwoNumberByNumber(t *testing.T) {
	all := smallSpans()
	for _, a := range all {
		for _, b := range all {
			for _, c := range all {
				l := []sp{a, b, c}
				common, _ := vote.Common(l...)
				two, _ := vote.Two(l...)
				hasCommon, hasTwo := false, false
				for x := int64(-few); x <= few; x++ {
					n := many(l, x)
					hasCommon, hasTwo = hasCommon || n == 3, hasTwo || n >= 2
					if n == 3 && !common.Has(x) {
						t.Errorf("Common(%v) = %v, which lacks %d", l, common, x)
					}
					if n >= 2 && !two.Has(x) {
						t.Errorf("Two(%v) = %v, which lacks %d", l, two, x)
					}
				}
				if hasCommon && (many(l, common.Lo) != 3 || many(l, common.Hi) != 3) {
					t.Errorf("Common(%v) = %v, which not all have", l, common)
				}
				if hasTwo && (many(l, two.Lo) < 2 || many(l, two.Hi) < 2) {
					t.Errorf("Two(%v) = %v, which is not the least one", l, two)
				}
				if !hasCommon && common != (sp{}) || !hasTwo && two != (sp{}) {
					t.Errorf("of %v: Common %v, Two %v, without such numbers", l, common, two)
				}
			}
		}
	}
}

// P5.1: in numbers written out: no span, one, equal ones, spans that touch, gaps, spans that are not valid, and the ends of 64 bits.
func TestCommonAndTwoWrittenOut(t *testing.T) {
	all, wrong := ends{least, most}, ends{5, 3}
	for _, c := range []struct {
		l           []ends
		common, two answer
	}{
		{nil, none(), none()},
		{[]ends{}, none(), none()},
		{[]ends{{1, 3}}, is(1, 3), none()},
		{[]ends{{0, 0}}, is(0, 0), none()},
		{[]ends{all}, is(least, most), none()},
		{[]ends{wrong}, none(), none()},
		{[]ends{{1, 3}, {1, 3}}, is(1, 3), is(1, 3)},
		{[]ends{{0, 0}, {0, 0}}, is(0, 0), is(0, 0)},
		{[]ends{{1, 3}, {1, 3}, {7, 9}}, none(), is(1, 3)},
		{[]ends{{1, 3}, {3, 5}}, is(3, 3), is(3, 3)},
		{[]ends{{1, 3}, {4, 5}}, none(), none()},
		{[]ends{{4, 5}, {1, 3}}, none(), none()},
		{[]ends{wrong, wrong}, none(), none()},
		{[]ends{wrong, {3, 5}}, none(), none()},
		{[]ends{{3, 5}, wrong}, none(), none()},
		{[]ends{wrong, {1, 9}, {3, 5}}, none(), is(3, 5)},
		{[]ends{{1, 9}, {9, 1}, {3, 5}}, none(), is(3, 5)},
		{[]ends{{0, 9}, {1, -20}, {20, 30}}, none(), none()},
		{[]ends{{0, 9}, {most, least}, {-5, 0}}, none(), is(0, 0)},
		{[]ends{{1, 3}, {2, 9}, {8, 8}}, none(), is(2, 8)},
		{[]ends{{8, 8}, {2, 9}, {1, 3}}, none(), is(2, 8)},
		{[]ends{{1, 5}, {2, 6}, {3, 7}}, is(3, 5), is(2, 6)},
		{[]ends{{1, 2}, {5, 6}, {3, 4}}, none(), none()},
		{[]ends{{1, 2}, {8, 9}, {4, 5}, {5, 6}}, none(), is(5, 5)},
		{[]ends{{1, 2}, {2, 3}, {8, 9}, {9, 10}}, none(), is(2, 9)},
		{[]ends{{0, 100}, {10, 20}, {30, 40}, {50, 60}}, none(), is(10, 60)},
		{[]ends{{0, 100}, {10, 90}, {30, 40}}, is(30, 40), is(10, 90)},
		{[]ends{{-9, -1}, {0, 9}, {1, 9}}, none(), is(1, 9)},
		{[]ends{{1, 4}, {1, 9}, {1, 7}}, is(1, 4), is(1, 7)},
		{[]ends{{-3, 9}, {2, 9}, {7, 9}}, is(7, 9), is(2, 9)},
		{[]ends{{4, 5}, {1, 20}, {2, 3}}, none(), is(2, 5)},
		{[]ends{all, all}, is(least, most), is(least, most)},
		{[]ends{all, {least, least}, {most, most}}, none(), is(least, most)},
		{[]ends{{least, -1}, {0, most}}, none(), none()},
		{[]ends{{least, 0}, {0, most}}, is(0, 0), is(0, 0)},
		{[]ends{{least, least}, {least, most}}, is(least, least), is(least, least)},
		{[]ends{{most, most}, {least, most}}, is(most, most), is(most, most)},
		{[]ends{{most, least}, {least, most}}, none(), none()},
	} {
		if got := told(vote.Common(spans(c.l)...)); got != c.common {
			t.Errorf("Common(%v) = %v; want %v", c.l, got, c.common)
		}
		if got := told(vote.Two(spans(c.l)...)); got != c.two {
			t.Errorf("Two(%v) = %v; want %v", c.l, got, c.two)
		}
	}
}

// Chapter 5: a number that only one of three spans lacks is in Two.
func TestTwoOutvotesOne(t *testing.T) {
	row := scatter(55)
	for range 20000 {
		x := row.next()
		l := []sp{row.span(), of(x, max(x, row.next())), of(min(x, row.next()), x)}
		for range l {
			l = append(l[1:], l[0])
			if two, ok := vote.Two(l...); !ok || !two.Has(x) {
				t.Errorf("Two(%v) = %v, %t, which lacks %d", l, two, ok, x)
			}
		}
	}
}

// P5.2: the indices of the spans without a number that f contains.
func TestStrays(t *testing.T) {
	try := func(f sp, l []sp) {
		var want []int
		for i, s := range l {
			if !held([]sp{f, s}, 2).ok {
				want = append(want, i)
			}
		}
		if got := vote.Strays(f, l...); !slices.Equal(got, want) {
			t.Errorf("Strays(%v, %v) = %v; want %v", f, l, got, want)
		}
	}
	for _, all := range [][]sp{smallSpans(), edgeSpans()} {
		for _, f := range all {
			try(f, nil)
			try(f, all)
			for _, s := range all {
				try(f, []sp{s})
			}
		}
	}
	row := scatter(52)
	lists(func(l []sp) { try(row.span(), l) })
}

// P5.2: in numbers written out: spans that touch, spans that are not valid, and the ends of 64 bits.
func TestStraysWrittenOut(t *testing.T) {
	all, wrong := ends{least, most}, ends{5, 3}
	for _, c := range []struct {
		f    ends
		l    []ends
		want []int
	}{
		{ends{3, 5}, nil, nil},
		{wrong, nil, nil},
		{ends{3, 5}, []ends{{1, 2}}, []int{0}},
		{ends{3, 5}, []ends{{1, 3}}, nil},
		{ends{3, 5}, []ends{{6, 9}}, []int{0}},
		{ends{3, 5}, []ends{{5, 9}}, nil},
		{ends{3, 5}, []ends{{4, 4}, {1, 9}, {3, 5}}, nil},
		{ends{3, 5}, []ends{{9, 9}, {4, 4}, {0, 0}}, []int{0, 2}},
		{ends{3, 5}, []ends{{0, 0}, {0, 0}, {4, 8}, {0, 0}}, []int{0, 1, 3}},
		{ends{3, 5}, []ends{wrong, {3, 5}, {4, 3}}, []int{0, 2}},
		{ends{1, 9}, []ends{wrong}, []int{0}},
		{wrong, []ends{{1, 9}, {3, 3}, wrong, all}, []int{0, 1, 2, 3}},
		{all, []ends{{least, least}, {most, most}, {0, -1}, all, {most, least}}, []int{2, 4}},
		{ends{least, -1}, []ends{{0, most}, {-1, 0}}, []int{0}},
		{ends{most, least}, []ends{all, {0, 0}}, []int{0, 1}},
	} {
		if got := vote.Strays(of(c.f[0], c.f[1]), spans(c.l)...); !slices.Equal(got, c.want) {
			t.Errorf("Strays(%v, %v) = %v; want %v", c.f, c.l, got, c.want)
		}
	}
}

// The document's rules: the order of the spans does not matter to Common and Two.
func TestOrder(t *testing.T) {
	row := scatter(51)
	lists(func(l []sp) {
		turned := slices.Clone(l)
		slices.Reverse(turned)
		if at := row.next() & 7; len(l) > int(at) {
			turned = append(turned[at:], turned[:at]...)
		}
		if got, want := told(vote.Common(turned...)), told(vote.Common(l...)); got != want {
			t.Errorf("Common(%v) = %v; in another order %v", turned, got, want)
		}
		if got, want := told(vote.Two(turned...)), told(vote.Two(l...)); got != want {
			t.Errorf("Two(%v) = %v; in another order %v", turned, got, want)
		}
	})
}

// The document's rules: the spans that are passed, and their spare capacity, are neither changed nor retained, and results are new.
func TestMemory(t *testing.T) {
	whole := spans([]ends{{8, 8}, {9, 2}, {2, 9}, {1, 3}, {-7, -5}, {-6, 4}, {5, 5}, {0, 0}})
	kept := slices.Clone(whole)
	l := whole[:5]
	vote.Common(l...)
	vote.Two(l...)
	first := vote.Strays(of(3, 5), l...)
	if !slices.Equal(whole, kept) {
		t.Errorf("the spans are %v; they were %v", whole, kept)
	}
	if want := []int{0, 1, 4}; !slices.Equal(first, want) {
		t.Fatalf("Strays = %v; want %v", first, want)
	}
	second := vote.Strays(of(3, 5), l...)
	clear(first[:cap(first)])
	if want := []int{0, 1, 4}; !slices.Equal(second, want) {
		t.Errorf("Strays = %v after another one's result was changed; want %v", second, want)
	}
}

// P1: with very many spans the calls end, too: no time that grows by the square of their number.
func TestManySpans(t *testing.T) {
	const n = 1 << 20
	l := make([]sp, n)
	for i := range l {
		// Each one alone, with gaps, the last ones first.
		at := int64(n-i) * 3
		l[i] = of(at, at+1)
	}
	if got := told(vote.Two(l...)); got != none() {
		t.Errorf("Two = %v", got)
	}
	l = append(l, of(7, most))
	if got, want := told(vote.Two(l...)), is(7, 3*n+1); got != want {
		t.Errorf("Two = %v; want %v", got, want)
	}
	if got := told(vote.Common(l...)); got != none() {
		t.Errorf("Common = %v", got)
	}
	if got := vote.Strays(of(0, 7), l...); len(got) != n-2 || got[0] != 0 || got[n-3] != n-3 {
		t.Errorf("Strays: %d of them", len(got))
	}
}
