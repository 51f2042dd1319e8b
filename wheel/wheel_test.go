package wheel_test

import (
	"math"
	"math/big"
	"testing"

	"odograph/api"
	"odograph/span"
	"odograph/wheel"
)

const (
	least = math.MinInt64
	most  = math.MaxInt64

	// The greatest numbers for which something is promised.
	greatest  = api.MaxCirc
	furthest  = 1 << 44
	mostTeeth = api.MaxPulses
	mostTimes = 1 << 40
)

type sp = span.Span

func of(lo, hi int64) sp { return sp{Lo: lo, Hi: hi} }

// back is the same way, gone backward.
func back(way sp) sp { return of(-way.Hi, -way.Lo) }

// scatter is a row of numbers, always the same one.
type scatter uint64

func (s *scatter) next() uint64 {
	*s = *s*6364136223846793005 + 1442695040888963407
	return uint64(*s ^ *s>>31)
}

// to is a number of the row from 0 to n - 1.
func (s *scatter) to(n int) int { return int(s.next() >> 8 % uint64(n)) }

// from is a number of the row from lo to hi, an end rather often.
func (s *scatter) from(lo, hi int64) int64 {
	switch s.to(6) {
	case 0:
		return lo
	case 1:
		return hi
	}
	return lo + int64(s.next()%uint64(hi-lo+1))
}

// up is a number of the row from lo to hi, each length of it as often, for a positive lo.
func (s *scatter) up(lo, hi int64) int64 {
	for {
		if x := s.from(lo, hi) >> s.to(64); x >= lo {
			return x
		}
	}
}

// any64 is a number of the row that is near an edge rather often.
func (s *scatter) any64() int64 {
	edges := []int64{least, -1 << 44, -1 << 40, -1 << 23, -1024, 0, 1, 2, 1024, 1 << 17, 1 << 23, 1 << 31, 1 << 40, 1 << 44, 1 << 53, 1 << 54, most}
	if s.to(3) > 0 {
		return edges[s.to(len(edges))] + int64(s.to(7)) - 3
	}
	return int64(s.next()) >> s.to(64)
}

// wantLearn is Learn's answer written out.
func wantLearn(t *testing.T, circ, way sp, pulses, n int64, want sp, ok bool) {
	t.Helper()
	if got, learned := wheel.Learn(circ, way, pulses, n); got != want || learned != ok {
		t.Errorf("Learn(%v, %v, %d, %d) = %v, %t; want %v, %t", circ, way, pulses, n, got, learned, want, ok)
	}
}

// wantBoth is Learn's answer written out, for a train that moves forward, and for one that goes the same way backward.
func wantBoth(t *testing.T, circ, way sp, pulses, n int64, want sp, ok bool) {
	t.Helper()
	wantLearn(t, circ, way, pulses, n, want, ok)
	wantLearn(t, circ, back(way), pulses, -n, want, ok)
}

// P16.1: circumferences written out, the chapter's example first.
func TestLearnWrittenOut(t *testing.T) {
	circ := of(900, 1100)
	for _, x := range []struct {
		way       sp
		pulses, n int64
		want      sp
	}{
		{of(10000, 10010), 10, 100, of(990, 1012)},
		{of(10000, 10000), 10, 100, of(990, 1011)},
		// The fewest pulses, which bound the circumference from one side, or from the other one.
		{of(300, 300), 10, 2, of(1000, 1100)},
		{of(299, 300), 10, 2, of(996, 1100)},
		{of(105, 105), 10, 2, of(900, 1050)},
		{of(200, 200), 10, 3, of(900, 1000)},
		{of(200, 201), 10, 3, of(900, 1005)},
		{of(380, 1000), 10, 3, of(950, 1100)},
		// Of both ends, Lo is rounded down, and Hi up.
		{of(301, 301), 10, 2, of(1003, 1100)},
		{of(302, 302), 10, 2, of(1006, 1100)},
		{of(9999, 10001), 10, 100, of(990, 1011)},
		{of(9998, 9999), 10, 100, of(989, 1010)},
		{of(10100, 10100), 10, 101, of(990, 1010)},
		{of(10098, 10098), 10, 100, of(999, 1020)},
		{of(10099, 10100), 10, 100, of(999, 1021)},
		{of(1001, 1003), 7, 7, of(900, 1100)},
		{of(1090, 1099), 7, 7, of(953, 1100)},
		{of(9, 9), 1024, 10, of(900, 1024)},
		{of(1000003, 1000007), 1, 1000, of(999, 1002)},
		// A way of which hardly anything is known.
		{of(1, 10005), 10, 100, of(900, 1011)},
		{of(10000, furthest), 10, 100, of(990, 1100)},
		{of(1, furthest), 10, 100, circ},
		{of(9091, 10890), 10, 100, of(900, 1100)},
	} {
		wantBoth(t, circ, x.way, x.pulses, x.n, x.want, true)
	}
	// A wheel of which everything is known, or nothing.
	wantBoth(t, of(1000, 1000), of(10000, 10010), 10, 100, of(1000, 1000), true)
	wantBoth(t, of(1, greatest), of(10000, 10010), 10, 100, of(990, 1012), true)
	wantBoth(t, of(1, greatest), of(1, 1), 1, 2, of(1, 1), true)
	wantBoth(t, of(1, greatest), of(1, 1), 10, 2, of(3, 10), true)
	wantBoth(t, of(2900000, 3000000), of(29500000, 29500020), 100, 1000, of(2947052, 2952955), true)
}

// P16.1: as soon as there is a number in common, it is learned, and before it nothing is.
func TestLearnAtTheEnds(t *testing.T) {
	circ := of(900, 1100)
	for _, x := range []struct {
		way       sp
		pulses, n int64
		want      sp
		ok        bool
	}{
		// The greatest circumference that may be is 901, 900 (also by rounding), 899.
		{of(901, 901), 10, 11, of(900, 901), true},
		{of(900, 900), 10, 11, of(900, 900), true},
		{of(999, 999), 9, 11, of(900, 900), true},
		{of(899, 899), 10, 11, circ, false},
		{of(1, 899), 10, 11, circ, false},
		{of(1, 900), 10, 11, of(900, 900), true},
		{of(1, 1), 10, 11, circ, false},
		// The least one is 1099, 1100 (also by rounding), 1101.
		{of(1319, 1319), 10, 11, of(1099, 1100), true},
		{of(1320, 1320), 10, 11, of(1100, 1100), true},
		{of(1321, 1321), 10, 11, of(1100, 1100), true},
		{of(1322, 1322), 10, 11, circ, false},
		{of(1322, furthest), 10, 11, circ, false},
		{of(1321, furthest), 10, 11, of(1100, 1100), true},
		{of(furthest, furthest), 10, 11, circ, false},
	} {
		wantBoth(t, circ, x.way, x.pulses, x.n, x.want, x.ok)
	}
	wantBoth(t, of(1000, 1000), of(998, 998), 10, 11, of(1000, 1000), false)
	wantBoth(t, of(1000, 1000), of(1000, 1000), 10, 11, of(1000, 1000), true)
	wantBoth(t, of(1000, 1000), of(1201, 1201), 10, 11, of(1000, 1000), true)
	wantBoth(t, of(1000, 1000), of(1202, 1202), 10, 11, of(1000, 1000), false)
}

// P16.1: which numbers of pulses go with which ways.
func TestLearnDirection(t *testing.T) {
	circ := of(900, 1100)
	for _, x := range []struct {
		n    int64
		way  sp
		want sp
		ok   bool
	}{
		{2, of(1, 105), of(900, 1050), true}, {2, of(0, 105), circ, false}, {2, of(-1, 105), circ, false}, {2, of(-105, 105), circ, false},
		{2, of(-105, -1), circ, false}, {2, of(-105, 0), circ, false}, {2, of(-105, 1), circ, false}, {2, of(0, 0), circ, false},
		{-2, of(-105, -1), of(900, 1050), true}, {-2, of(-105, 0), circ, false}, {-2, of(-105, 1), circ, false}, {-2, of(-105, 105), circ, false},
		{-2, of(1, 105), circ, false}, {-2, of(0, 105), circ, false}, {-2, of(-1, 105), circ, false}, {-2, of(0, 0), circ, false},
		{3, of(1, 205), of(900, 1025), true}, {3, of(0, 205), circ, false}, {3, of(-205, -1), circ, false}, {3, of(-205, 0), circ, false},
		{-3, of(-205, -1), of(900, 1025), true}, {-3, of(-205, 0), circ, false}, {-3, of(1, 205), circ, false}, {-3, of(0, 205), circ, false},
		{100, of(10000, 10010), of(990, 1012), true}, {100, of(-10010, -10000), circ, false}, {-100, of(10000, 10010), circ, false}, {-100, of(-10010, -10000), of(990, 1012), true},
		{mostTimes, of(-furthest, furthest), circ, false}, {-mostTimes, of(-furthest, furthest), circ, false}, {mostTimes, of(0, furthest), circ, false}, {-mostTimes, of(-furthest, 0), circ, false},
	} {
		wantLearn(t, circ, x.way, 10, x.n, x.want, x.ok)
	}
	for n := int64(-1); n <= 1; n++ {
		for _, way := range []sp{of(1, 1), of(1, 105), of(100, 100), of(90, 110), of(10000, 10010), of(furthest, furthest), of(1, furthest), of(0, 0), of(0, 105), of(-105, 105)} {
			wantBoth(t, circ, way, 10, n, circ, false)
			wantBoth(t, circ, way, 1, n, circ, false)
			wantBoth(t, circ, way, mostTeeth, n, circ, false)
		}
	}
}

// P16.1: the greatest numbers for which it is promised.
func TestLearnGreatest(t *testing.T) {
	whole, top := of(1, greatest), of(greatest, greatest)
	far := of(furthest, furthest)
	for _, x := range []struct {
		circ, way sp
		pulses, n int64
		want      sp
		ok        bool
	}{
		{whole, far, mostTeeth, mostTimes, of(16383, 16385), true},
		{whole, far, mostTeeth, mostTimes - 1, of(16384, 16385), true},
		{whole, far, 1, mostTimes, of(15, 17), true},
		{whole, of(1, furthest), mostTeeth, mostTimes, of(1, 16385), true},
		{whole, of(1, 1), 1, mostTimes, of(1, 1), true},
		{of(2, greatest), of(1, 1), 1, mostTimes, of(2, greatest), false},
		{whole, far, mostTeeth, 2, whole, false},
		{whole, of(1, furthest), mostTeeth, 2, of(341, greatest), true},
		{whole, far, mostTeeth, 1 << 31, of(greatest-1, greatest), true},
		{whole, far, mostTeeth, 1<<31 - 1, top, true},
		{whole, far, mostTeeth, 1<<31 - 2, top, true},
		{whole, far, mostTeeth, 1<<31 - 256, top, true},
		{whole, far, mostTeeth, 1<<31 - 257, whole, false},
		{top, far, mostTeeth, 1<<31 + 1, top, true},
		{top, far, mostTeeth, 1<<31 + 2, top, true},
		{top, far, mostTeeth, 1<<31 + 257, top, true},
		{top, far, mostTeeth, 1<<31 + 258, top, false},
	} {
		wantBoth(t, x.circ, x.way, x.pulses, x.n, x.want, x.ok)
	}
}

// expected is Learn's answer by the chapter, reckoned with numbers of any size.
func expected(circ, way sp, pulses, n int64) (sp, bool) {
	if !(n >= 2 && way.Lo > 0) && !(n <= -2 && way.Hi < 0) {
		return circ, false
	}
	if n < 0 {
		way, n = back(way), -n
	}
	// Div of a big number rounds down for a positive divisor.
	quotient := func(x, by int64) *big.Int {
		product := new(big.Int).Mul(big.NewInt(x), big.NewInt(pulses))
		return product.Div(product, big.NewInt(by))
	}
	lo := quotient(way.Lo, n+1)
	hi := quotient(-way.Hi, n-1)
	hi.Neg(hi)
	if c := big.NewInt(circ.Lo); lo.Cmp(c) < 0 {
		lo = c
	}
	if c := big.NewInt(circ.Hi); hi.Cmp(c) > 0 {
		hi = c
	}
	if lo.Cmp(hi) > 0 {
		return circ, false
	}
	return of(lo.Int64(), hi.Int64()), true
}

// P16.1: scattered numbers against the chapter; what is learned lies within what was known.
func TestLearnScattered(t *testing.T) {
	row := scatter(161)
	learned, narrower := map[bool]int{}, 0
	for i := range 400000 {
		circ := of(row.up(1, greatest), row.up(1, greatest))
		circ = of(min(circ.Lo, circ.Hi), max(circ.Lo, circ.Hi))
		a, b := row.up(1, furthest), row.up(1, furthest)
		pulses, n := row.up(1, mostTeeth), row.up(1, mostTimes)
		if i%4 > 0 {
			// A distance that goes with the pulses, more or less.
			n = row.up(1, min(mostTimes, furthest/circ.Hi*pulses))
			a = min(max(row.from(circ.Lo, circ.Hi)*n/pulses, 1), furthest)
			b = min(a+row.up(1, 1<<20)-1, furthest)
		}
		way := of(min(a, b), max(a, b))
		switch row.to(8) {
		case 0:
			way.Lo = -way.Lo
		case 1:
			way.Lo = 0
		}
		if row.to(2) == 0 {
			way, n = back(way), -n
		}
		if row.to(8) == 0 {
			n = -n
		}
		want, ok := expected(circ, way, pulses, n)
		wantLearn(t, circ, way, pulses, n, want, ok)
		if got, _ := wheel.Learn(circ, way, pulses, n); !got.Right() || !got.In(circ) {
			t.Errorf("Learn(%v, %v, %d, %d) = %v, which was not known", circ, way, pulses, n, got)
		}
		learned[ok]++
		if want != circ {
			narrower++
		}
	}
	if learned[true] < 50000 || learned[false] < 50000 || narrower < 50000 {
		t.Errorf("learned: %v, and something new %d times", learned, narrower)
	}
}

// P16.1: small numbers against the chapter, circumference by circumference.
func TestLearnHasEachCircumference(t *testing.T) {
	const few = 7
	for circ := range smallSpans(3 * few) {
		for way := range smallSpans(few) {
			for pulses := int64(1); pulses <= 3; pulses++ {
				for n := int64(2); n <= few; n++ {
					wantEach(t, circ, way, pulses, n)
				}
			}
		}
	}
}

// wantEach asks of each circumference whether it is learned exactly if it is in circ, and not beyond the quotients, which are rounded outwards.
func wantEach(t *testing.T, circ, way sp, pulses, n int64) {
	t.Helper()
	got, ok := wheel.Learn(circ, way, pulses, n)
	mirrored, mirroredOk := wheel.Learn(circ, back(way), pulses, -n)
	if got != mirrored || ok != mirroredOk {
		t.Fatalf("Learn(%v, %v, %d, %d) = %v, %t; backward %v, %t", circ, way, pulses, n, got, ok, mirrored, mirroredOk)
	}
	some := false
	for c := circ.Lo - 1; c <= circ.Hi+1; c++ {
		may := circ.Has(c) && way.Lo*pulses < (c+1)*(n+1) && (c-1)*(n-1) < way.Hi*pulses
		some = some || may
		if ok && got.Has(c) != may {
			t.Fatalf("Learn(%v, %v, %d, %d) = %v; %d may be: %t", circ, way, pulses, n, got, c, may)
		}
	}
	if ok != some || !ok && got != circ {
		t.Fatalf("Learn(%v, %v, %d, %d) = %v, %t; some may be: %t", circ, way, pulses, n, got, ok, some)
	}
}

// smallSpans are all valid spans from 1 to most.
func smallSpans(most int64) func(func(sp) bool) {
	return func(yield func(sp) bool) {
		for lo := int64(1); lo <= most; lo++ {
			for hi := lo; hi <= most; hi++ {
				if !yield(of(lo, hi)) {
					return
				}
			}
		}
	}
}

// P16.1: whichever circumference a wheel has, each number of pulses that a correct tachometer can give over a distance leaves it.
func TestLearnKeepsTheTruth(t *testing.T) {
	const few = 12
	for c := int64(1); c <= few; c++ {
		for pulses := int64(1); pulses <= few; pulses++ {
			for d := int64(-2 * few); d <= 2*few; d++ {
				for n := int64(-2*few*few - 1); n <= 2*few*few+1; n++ {
					if off := n*c - d*pulses; off <= -c || off >= c {
						continue
					}
					for _, circ := range []sp{of(c, c), of(1, c), of(c, few), of(1, 2*few)} {
						for _, way := range []sp{of(d, d), of(d-1, d), of(d, d+1), of(d-3, d+5)} {
							got, ok := wheel.Learn(circ, way, pulses, n)
							if learns := n >= 2 && way.Lo > 0 || n <= -2 && way.Hi < 0; !got.Has(c) || ok != learns {
								t.Fatalf("Learn(%v, %v, %d, %d) = %v, %t; the circumference is %d", circ, way, pulses, n, got, ok, c)
							}
						}
					}
				}
			}
		}
	}
}

// P16.1: of a wheel that turns on and back, more is learned with each stretch, and its circumference stays in it, wherever it begins.
func TestLearnOfTurningWheel(t *testing.T) {
	row := scatter(163)
	narrower := 0
	for range 2000 {
		pulses := row.from(1, mostTeeth)
		known := of(row.from(1<<17, greatest-1<<16), 0)
		known.Hi = row.from(known.Lo, min(known.Lo+known.Lo/16, greatest))
		circ := row.from(known.Lo, known.Hi)
		turned := row.from(0, circ-1)
		for range 20 {
			count, distance := floor(turned, circ), int64(0)
			for v := row.from(-1<<24, 1<<24); row.to(50) > 0; v += row.from(-1<<20, 1<<20) {
				turned += pulses * v
				distance += v
			}
			n, was := floor(turned, circ)-count, known
			way := of(distance-row.up(1, 1<<22)+1, distance+row.up(1, 1<<22)-1)
			known, _ = wheel.Learn(known, way, pulses, n)
			if !known.Has(circ) || !known.In(was) {
				t.Fatalf("Learn(%v, %v, %d, %d) = %v; the circumference is %d", was, way, pulses, n, known, circ)
			}
			if known != was {
				narrower++
			}
		}
	}
	if narrower < 2000 {
		t.Errorf("something new was learned %d times", narrower)
	}
}

// floor is a / b rounded down, for a b above 0.
func floor(a, b int64) int64 {
	q := a / b
	if a%b < 0 {
		q--
	}
	return q
}

// P1: any numbers and spans end, without a panic, and the same ones have the same answer.
func TestAnyNumbers(t *testing.T) {
	row := scatter(164)
	for i := range 1000000 {
		circ, way := of(row.any64(), row.any64()), of(row.any64(), row.any64())
		pulses, n := row.any64(), row.any64()
		if i%2 == 0 {
			way = of(max(way.Lo, 1), max(way.Hi, 1))
			n = max(n, 2)
		}
		if i%4 == 0 {
			way, n = back(way), -n
		}
		want, ok := wheel.Learn(circ, way, pulses, n)
		wantLearn(t, circ, way, pulses, n, want, ok)
	}
	for _, n := range []int64{least, least + 1, -2, -1, 0, 1, 2, most - 1, most} {
		for _, way := range []sp{of(least, least), of(least, -1), of(least, most), of(1, most), of(most, most), of(most, least), of(0, 0), of(5, -5)} {
			for _, pulses := range []int64{least, -1, 0, 1, most} {
				for _, circ := range []sp{of(1, greatest), of(least, most), of(most, least), of(0, 0)} {
					want, ok := wheel.Learn(circ, way, pulses, n)
					wantLearn(t, circ, way, pulses, n, want, ok)
				}
			}
		}
	}
}
