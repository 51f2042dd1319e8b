package fuse_test

import (
	"math"
	"math/big"
	"testing"

	"odograph/fuse"
	"odograph/sense"
	"odograph/span"
)

const (
	least = math.MinInt64
	most  = math.MaxInt64
)

type (
	sp    = span.Span
	said  = fuse.Sensor
	fused = fuse.Fused
)

func of(lo, hi int64) sp { return sp{Lo: lo, Hi: hi} }

// fit is a sensor that is fit, and out is one that is not, whatever Span it has.
func fit(lo, hi int64) said { return said{Fit: true, Span: of(lo, hi)} }

func out(lo, hi int64) said { return said{Span: of(lo, hi)} }

// off is a sensor of which nothing is known.
var off said

// back is the same span of a train that goes the other way.
func back(s sp) sp { return of(-s.Hi, -s.Lo) }

// scatter is a row of numbers, always the same one.
type scatter uint64

func (s *scatter) next() uint64 {
	*s = *s*6364136223846793005 + 1442695040888963407
	return uint64(*s ^ *s>>31)
}

// to is a number of the row from 0 to n - 1.
func (s *scatter) to(n int) int { return int(s.next() >> 8 % uint64(n)) }

// from is a number of the row from lo to hi, an end rather often.
func (s *scatter) from(lo, hi int64) int64 {
	switch s.to(6) {
	case 0:
		return lo
	case 1:
		return hi
	}
	return lo + int64(s.next()%uint64(hi-lo+1))
}

// within is a valid span of the row from lo to hi.
func (s *scatter) within(lo, hi int64) sp {
	a, b := s.from(lo, hi), s.from(lo, hi)
	return of(min(a, b), max(a, b))
}

// around is a span of the row with x in it, no further away than far.
func (s *scatter) around(x, far int64) sp {
	return of(x-int64(s.to(int(far)+1)), x+int64(s.to(int(far)+1)))
}

// any64 is a number of the row that is near an edge rather often.
func (s *scatter) any64() int64 {
	edges := []int64{least, -1 << 62, -1 << 24, -1000, 0, 1000, 1 << 24, 1 << 62, most}
	if s.to(3) > 0 {
		return edges[s.to(len(edges))] + int64(s.to(7)) - 3
	}
	return int64(s.next()) >> s.to(64)
}

// wide is a valid span of any numbers.
func (s *scatter) wide() sp {
	a, b := s.any64(), s.any64()
	return of(min(a, b), max(a, b))
}

// wantFuse is Fuse's answer written out.
func wantFuse(t *testing.T, prior sp, three [3]said, accel said, want fused) {
	t.Helper()
	if got := fuse.Fuse(prior, three, accel); got != want {
		t.Errorf("Fuse(%v, %v, %v) = %+v; want %+v", prior, three, accel, got, want)
	}
}

// P17.1: the chapter's example.
func TestFuseExample(t *testing.T) {
	prior := of(0, 100)
	wantFuse(t, prior, [3]said{fit(10, 20), fit(12, 30), fit(40, 50)}, off, fused{Speed: of(12, 20), Fit: 3})
	wantFuse(t, prior, [3]said{fit(10, 20), fit(12, 30), fit(15, 18)}, off, fused{Speed: of(15, 18), Fit: 3, Clean: true})
}

// P17.1: three sensors that agree.
func TestFuseAgree(t *testing.T) {
	prior := of(0, 100)
	for _, x := range []struct {
		three [3]said
		want  sp
	}{
		{[3]said{fit(10, 20), fit(12, 30), fit(15, 50)}, of(15, 20)},
		{[3]said{fit(10, 20), fit(10, 20), fit(10, 20)}, of(10, 20)},
		{[3]said{fit(10, 20), fit(20, 30), fit(5, 40)}, of(20, 20)},
		{[3]said{fit(20, 30), fit(10, 20), fit(20, 20)}, of(20, 20)},
		{[3]said{fit(0, 100), fit(-50, 200), fit(least, most)}, of(0, 100)},
		{[3]said{fit(-50, 200), fit(-60, 300), fit(-70, 400)}, of(0, 100)},
		{[3]said{fit(-50, 7), fit(-60, 300), fit(-70, 400)}, of(0, 7)},
		{[3]said{fit(-50, 200), fit(93, 300), fit(-70, 400)}, of(93, 100)},
		{[3]said{fit(-50, 0), fit(-60, 300), fit(-70, 400)}, of(0, 0)},
		{[3]said{fit(100, 200), fit(90, 300), fit(-70, 400)}, of(100, 100)},
	} {
		wantFuse(t, prior, x.three, off, fused{Speed: x.want, Fit: 3, Clean: true})
	}
	// They agree, though not with the speed that is possible: a conflict, and yet clean.
	wantFuse(t, prior, [3]said{fit(-9, -1), fit(-5, 20), fit(-5, 30)}, off, fused{Speed: prior, Fit: 3, Clean: true, Conflict: true})
	wantFuse(t, prior, [3]said{fit(101, 200), fit(5, 200), fit(5, 300)}, off, fused{Speed: prior, Fit: 3, Clean: true, Conflict: true})
}

// P17.1: those that are not fit do not count, whatever Spans they have.
func TestFuseFewer(t *testing.T) {
	prior := of(0, 100)
	for _, none := range []said{off, out(12, 18), out(70, 80), out(20, 10), out(most, least), out(least, most)} {
		// Of two, in each pair of places, and the other way round.
		for i := range 3 {
			for _, pair := range [][2]said{{fit(10, 20), fit(15, 30)}, {fit(15, 30), fit(10, 20)}} {
				three := [3]said{pair[0], pair[0], pair[0]}
				three[i], three[(i+1)%3] = none, pair[1]
				wantFuse(t, prior, three, off, fused{Speed: of(15, 20), Fit: 2})
			}
			for _, pair := range [][2]said{{fit(10, 20), fit(21, 30)}, {fit(21, 30), fit(10, 20)}, {fit(-5, -3), fit(200, 300)}, {fit(0, 100), fit(101, 101)}} {
				three := [3]said{pair[0], pair[0], pair[0]}
				three[i], three[(i+1)%3] = none, pair[1]
				wantFuse(t, prior, three, off, fused{Speed: prior, Fit: 2, Conflict: true})
				wantFuse(t, prior, three, fit(3, 8), fused{Speed: of(3, 8), Fit: 2, Conflict: true})
			}
			// Two that agree on what the speed cannot be.
			three := [3]said{fit(101, 120), fit(101, 120), fit(101, 120)}
			three[i] = none
			wantFuse(t, prior, three, off, fused{Speed: prior, Fit: 2, Conflict: true})
			// Of one.
			three = [3]said{none, none, none}
			three[i] = fit(15, 30)
			wantFuse(t, prior, three, off, fused{Speed: of(15, 30), Fit: 1})
			three[i] = fit(-15, 30)
			wantFuse(t, prior, three, none, fused{Speed: of(0, 30), Fit: 1})
			three[i] = fit(-15, -1)
			wantFuse(t, prior, three, none, fused{Speed: prior, Fit: 1, Conflict: true})
		}
		// Of none.
		wantFuse(t, prior, [3]said{none, off, none}, none, fused{Speed: prior})
		wantFuse(t, prior, [3]said{off, none, off}, fit(5, 200), fused{Speed: of(5, 100)})
		wantFuse(t, prior, [3]said{none, none, none}, fit(-5, -1), fused{Speed: prior, Conflict: true})
	}
}

// P17.1: three that disagree.
func TestFuseTwo(t *testing.T) {
	prior := of(0, 100)
	for _, x := range []struct {
		three [3]said
		want  fused
	}{
		// The radar strays: no wheel slips.
		{[3]said{fit(10, 20), fit(12, 30), fit(31, 50)}, fused{Speed: of(12, 20), Fit: 3}},
		{[3]said{fit(10, 20), fit(12, 30), fit(0, 9)}, fused{Speed: of(12, 20), Fit: 3}},
		// Each of two with the third one, and none strays: what lies between is as possible.
		{[3]said{fit(10, 20), fit(30, 40), fit(15, 35)}, fused{Speed: of(15, 35), Fit: 3}},
		{[3]said{fit(15, 35), fit(10, 20), fit(30, 40)}, fused{Speed: of(15, 35), Fit: 3}},
		{[3]said{fit(30, 40), fit(15, 35), fit(10, 20)}, fused{Speed: of(15, 35), Fit: 3}},
		{[3]said{fit(10, 20), fit(30, 40), fit(20, 30)}, fused{Speed: of(20, 30), Fit: 3}},
		// None has anything in common with another one.
		{[3]said{fit(10, 20), fit(30, 40), fit(50, 60)}, fused{Speed: prior, Fit: 3, Conflict: true}},
		{[3]said{fit(30, 40), fit(21, 29), fit(10, 20)}, fused{Speed: prior, Fit: 3, Conflict: true}},
		{[3]said{fit(least, -1), fit(0, 0), fit(1, most)}, fused{Speed: prior, Fit: 3, Conflict: true}},
		// Two agree on what the speed cannot be; the speed that is possible is that of the third one, and does not count.
		{[3]said{fit(10, 20), fit(110, 120), fit(115, 130)}, fused{Speed: prior, Fit: 3, Conflict: true, Slip: [2]int{-1, 0}}},
		{[3]said{fit(110, 120), fit(115, 130), fit(10, 20)}, fused{Speed: prior, Fit: 3, Conflict: true}},
		{[3]said{fit(-20, -10), fit(10, 20), fit(-15, -5)}, fused{Speed: prior, Fit: 3, Conflict: true, Slip: [2]int{0, -1}}},
		// A part of what two agree on is possible.
		{[3]said{fit(-12, 14), fit(40, 50), fit(-5, 15)}, fused{Speed: of(0, 14), Fit: 3, Slip: [2]int{0, 1}}},
		{[3]said{fit(40, 50), fit(90, 150), fit(95, 140)}, fused{Speed: of(95, 100), Fit: 3, Slip: [2]int{-1, 0}}},
	} {
		wantFuse(t, prior, x.three, off, x.want)
	}
}

// P17.1: which wheel slips, and how.
func TestFuseSlip(t *testing.T) {
	prior := of(-1000, 1000)
	for _, x := range []struct {
		stray, one, two, want sp
		slip                  int
	}{
		// Forward.
		{of(21, 30), of(10, 20), of(5, 20), of(10, 20), 1},
		{of(500, 600), of(10, 20), of(5, 25), of(10, 20), 1},
		{of(20, 30), of(10, 19), of(5, 19), of(10, 19), 1},
		{of(0, 9), of(10, 20), of(10, 25), of(10, 20), -1},
		{of(9, 9), of(10, 20), of(10, 20), of(10, 20), -1},
		// A wheel that turns backward on a train that moves forward is not faster, however fast it is.
		{of(-600, -500), of(10, 20), of(5, 25), of(10, 20), -1},
		{of(-30, -21), of(10, 20), of(5, 25), of(10, 20), -1},
		// Backward.
		{of(-30, -21), of(-20, -10), of(-20, -5), of(-20, -10), 1},
		{of(-600, -500), of(-20, -10), of(-25, -5), of(-20, -10), 1},
		{of(-9, 0), of(-20, -10), of(-25, -10), of(-20, -10), -1},
		{of(500, 600), of(-20, -10), of(-25, -5), of(-20, -10), -1},
		{of(21, 30), of(-20, -10), of(-25, -5), of(-20, -10), -1},
		// Neither: the Mid of what two say decides, rounded down, and 0 counts as forward.
		{of(6, 7), of(-5, 5), of(-5, 5), of(-5, 5), 1},
		{of(-7, -6), of(-5, 5), of(-5, 5), of(-5, 5), -1},
		{of(1, 1), of(0, 0), of(-5, 0), of(0, 0), 1},
		{of(-1, -1), of(0, 0), of(0, 5), of(0, 0), -1},
		{of(1, 1), of(-1, 0), of(-1, 0), of(-1, 0), -1},
		{of(-2, -2), of(-1, 0), of(-1, 0), of(-1, 0), 1},
		{of(2, 2), of(0, 1), of(0, 1), of(0, 1), 1},
		{of(-1, -1), of(0, 1), of(0, 1), of(0, 1), -1},
		{of(6, 9), of(-6, 5), of(-6, 5), of(-6, 5), -1},
		{of(-9, -7), of(-6, 5), of(-6, 5), of(-6, 5), 1},
		{of(7, 9), of(-5, 6), of(-5, 6), of(-5, 6), 1},
		{of(-9, -6), of(-5, 6), of(-5, 6), of(-5, 6), -1},
	} {
		a, b, c := said{true, x.stray}, said{true, x.one}, said{true, x.two}
		wantFuse(t, prior, [3]said{a, b, c}, off, fused{Speed: x.want, Fit: 3, Slip: [2]int{x.slip, 0}})
		wantFuse(t, prior, [3]said{a, c, b}, off, fused{Speed: x.want, Fit: 3, Slip: [2]int{x.slip, 0}})
		wantFuse(t, prior, [3]said{b, a, c}, off, fused{Speed: x.want, Fit: 3, Slip: [2]int{0, x.slip}})
		wantFuse(t, prior, [3]said{c, a, b}, off, fused{Speed: x.want, Fit: 3, Slip: [2]int{0, x.slip}})
		wantFuse(t, prior, [3]said{b, c, a}, off, fused{Speed: x.want, Fit: 3})
		wantFuse(t, prior, [3]said{c, b, a}, off, fused{Speed: x.want, Fit: 3})
		// One with which the others are not compared by a third one does not slip.
		a.Fit = false
		wantFuse(t, prior, [3]said{a, b, c}, off, fused{Speed: x.want, Fit: 2})
		wantFuse(t, prior, [3]said{b, c, a}, off, fused{Speed: x.want, Fit: 2})
	}
}

// P17.1: it is what the three say that a wheel is compared with, neither what is left of it nor what an accelerometer says.
func TestFuseSlipIsOfTheThree(t *testing.T) {
	three := [3]said{fit(-20, 15), fit(40, 50), fit(-15, 15)}
	wantFuse(t, of(0, 100), three, fit(3, 5), fused{Speed: of(3, 5), Fit: 3, Slip: [2]int{0, 1}})
	wantFuse(t, of(-100, -10), three, fit(-13, -11), fused{Speed: of(-13, -11), Fit: 3, Slip: [2]int{0, 1}})
	// Their Mid is negative, though what is possible of it is not.
	three[0] = fit(-20, 5)
	wantFuse(t, of(0, 100), three, off, fused{Speed: of(0, 5), Fit: 3, Slip: [2]int{0, -1}})
	wantFuse(t, of(0, 100), three, fit(45, 45), fused{Speed: of(0, 5), Fit: 3, Conflict: true, Slip: [2]int{0, -1}})
	wantFuse(t, of(40, 100), three, off, fused{Speed: of(40, 100), Fit: 3, Conflict: true, Slip: [2]int{0, -1}})
}

// P17.1: the accelerometer is asked last, and is not one of the three.
func TestFuseAccel(t *testing.T) {
	prior := of(0, 100)
	clean := [3]said{fit(10, 20), fit(12, 30), fit(15, 50)}
	wantFuse(t, prior, clean, fit(17, 40), fused{Speed: of(17, 20), Fit: 3, Clean: true})
	wantFuse(t, prior, clean, fit(15, 20), fused{Speed: of(15, 20), Fit: 3, Clean: true})
	wantFuse(t, prior, clean, fit(0, 16), fused{Speed: of(15, 16), Fit: 3, Clean: true})
	wantFuse(t, prior, clean, fit(20, 20), fused{Speed: of(20, 20), Fit: 3, Clean: true})
	wantFuse(t, prior, clean, fit(15, 15), fused{Speed: of(15, 15), Fit: 3, Clean: true})
	wantFuse(t, prior, clean, fit(21, 40), fused{Speed: of(15, 20), Fit: 3, Clean: true, Conflict: true})
	wantFuse(t, prior, clean, fit(0, 14), fused{Speed: of(15, 20), Fit: 3, Clean: true, Conflict: true})
	wantFuse(t, prior, clean, out(17, 40), fused{Speed: of(15, 20), Fit: 3, Clean: true})
	wantFuse(t, prior, clean, out(21, 40), fused{Speed: of(15, 20), Fit: 3, Clean: true})
	// What the three say cannot be, or they say nothing: the accelerometer is asked all the same.
	for _, three := range [][3]said{{fit(101, 120), fit(101, 120), off}, {fit(10, 20), fit(30, 40), fit(50, 60)}, {off, fit(70, 80), fit(10, 20)}} {
		n := 3
		for _, s := range three {
			if !s.Fit {
				n = 2
			}
		}
		wantFuse(t, prior, three, fit(17, 400), fused{Speed: of(17, 100), Fit: n, Conflict: true})
		wantFuse(t, prior, three, fit(101, 400), fused{Speed: prior, Fit: n, Conflict: true})
		wantFuse(t, prior, three, out(17, 400), fused{Speed: prior, Fit: n, Conflict: true})
	}
	wantFuse(t, prior, [3]said{}, fit(17, 400), fused{Speed: of(17, 100)})
	wantFuse(t, prior, [3]said{}, fit(100, 400), fused{Speed: of(100, 100)})
	wantFuse(t, prior, [3]said{}, fit(101, 400), fused{Speed: prior, Conflict: true})
	wantFuse(t, prior, [3]said{}, out(17, 400), fused{Speed: prior})
}

// P17.1: the greatest numbers.
func TestFuseGreatest(t *testing.T) {
	all := of(least, most)
	wantFuse(t, all, [3]said{fit(least, most), fit(least, most), fit(least, most)}, fit(least, most), fused{Speed: all, Fit: 3, Clean: true})
	wantFuse(t, all, [3]said{fit(least, least), fit(least, most), fit(least, least)}, off, fused{Speed: of(least, least), Fit: 3, Clean: true})
	wantFuse(t, all, [3]said{fit(most, most), fit(least, least), fit(least, 0)}, off, fused{Speed: of(least, least), Fit: 3, Slip: [2]int{-1, 0}})
	wantFuse(t, all, [3]said{fit(least, least), fit(most, most), fit(1, most)}, off, fused{Speed: of(most, most), Fit: 3, Slip: [2]int{-1, 0}})
	wantFuse(t, all, [3]said{fit(least, most-1), fit(most, most), fit(least, most-1)}, off, fused{Speed: of(least, most-1), Fit: 3, Slip: [2]int{0, -1}})
	wantFuse(t, all, [3]said{fit(least+1, most), fit(least, least), fit(least+1, most)}, off, fused{Speed: of(least+1, most), Fit: 3, Slip: [2]int{0, -1}})
	wantFuse(t, all, [3]said{fit(least, -1), fit(most, most), fit(0, most-1)}, fit(-1, 0), fused{Speed: of(-1, 0), Fit: 3, Conflict: true})
	wantFuse(t, of(most, most), [3]said{fit(most, most)}, off, fused{Speed: of(most, most), Fit: 1})
	wantFuse(t, of(least, least), [3]said{fit(most, most)}, off, fused{Speed: of(least, least), Fit: 1, Conflict: true})
}

// set is the numbers from -few to few that a span has, each as a bit.
type set uint

const few = 2

func setOf(s sp) set {
	var all set
	for x := int64(-few); x <= few; x++ {
		if s.Has(x) {
			all |= 1 << (x + few)
		}
	}
	return all
}

// hull is the least span with all numbers of s, of which there is one.
func (s set) hull() sp {
	h := of(few+1, -few-1)
	for x := int64(-few); x <= few; x++ {
		if s>>(x+few)&1 == 1 {
			h = of(min(h.Lo, x), max(h.Hi, x))
		}
	}
	return h
}

// expectedOfSets is Fuse's answer by the chapter, number by number.
func expectedOfSets(prior sp, three [3]said, accel said) fused {
	var want fused
	common, twice, once := set(1<<(2*few+1)-1), set(0), set(0)
	for _, s := range three {
		if s.Fit {
			want.Fit++
			has := setOf(s.Span)
			common &= has
			twice |= once & has
			once |= has
		}
	}
	speed, says := setOf(prior), set(0)
	switch {
	case want.Fit > 0 && common != 0:
		says = common
		want.Clean = want.Fit == 3
	case want.Fit == 3 && twice != 0:
		says = setOf(twice.hull())
		for i := range want.Slip {
			want.Slip[i] = expectedSlip(three[i].Span, twice.hull())
		}
	default:
		want.Conflict = want.Fit > 0
	}
	for _, s := range []struct {
		told bool
		has  set
	}{{says != 0, says}, {accel.Fit, setOf(accel.Span)}} {
		switch {
		case s.told && speed&s.has != 0:
			speed &= s.has
		case s.told:
			want.Conflict = true
		}
	}
	want.Speed = speed.hull()
	return want
}

// expectedSlip is the slip by the chapter of a tachometer that says wheel, where the three say s, reckoned with numbers of any size.
func expectedSlip(wheel, s sp) int {
	backward := new(big.Int).Add(big.NewInt(s.Lo), big.NewInt(s.Hi)).Sign() < 0
	above, below := wheel.Lo > s.Hi, wheel.Hi < s.Lo
	switch {
	case !above && !below:
		return 0
	case above && !backward, below && backward:
		return 1
	}
	return -1
}

// smallSensors are one that is not fit, and all that are fit and say small speeds.
func smallSensors() []said {
	l := []said{out(0, 0)}
	for lo := int64(-few); lo <= few; lo++ {
		for hi := lo; hi <= few; hi++ {
			l = append(l, fit(lo, hi))
		}
	}
	return l
}

// P17.1: all small speeds against the chapter, number by number.
func TestFuseSmall(t *testing.T) {
	sensors := smallSensors()
	for _, prior := range sensors[1:] {
		for _, first := range sensors {
			for _, second := range sensors {
				for _, radar := range sensors {
					for _, accel := range sensors {
						three := [3]said{first, second, radar}
						want := expectedOfSets(prior.Span, three, accel)
						if got := fuse.Fuse(prior.Span, three, accel); got != want {
							t.Fatalf("Fuse(%v, %v, %v) = %+v; want %+v", prior.Span, three, accel, got, want)
						}
					}
				}
			}
		}
	}
}

// expected is Fuse's answer by the chapters 4, 5 and 17: the least and the greatest number in so many of some spans are ends of them.
func expected(prior sp, three [3]said, accel said) fused {
	want := fused{Speed: prior}
	var l []sp
	for _, s := range three {
		if s.Fit {
			l = append(l, s.Span)
		}
	}
	want.Fit = len(l)
	s, ok := inMany(l, max(len(l), 1))
	want.Clean = ok && len(l) == 3
	if !ok && len(l) == 3 {
		if s, ok = inMany(l, 2); ok {
			want.Slip = [2]int{expectedSlip(l[0], s), expectedSlip(l[1], s)}
		}
	}
	want.Conflict = !ok && len(l) > 0
	for _, told := range []said{{ok, s}, accel} {
		if !told.Fit {
			continue
		}
		if both := of(max(want.Speed.Lo, told.Span.Lo), min(want.Speed.Hi, told.Span.Hi)); both.Lo <= both.Hi {
			want.Speed = both
		} else {
			want.Conflict = true
		}
	}
	return want
}

// inMany is from the least to the greatest number that is in n or more of the spans, and whether there is one.
func inMany(l []sp, n int) (sp, bool) {
	least, most, some := int64(most), int64(least), false
	for _, s := range l {
		for _, x := range []int64{s.Lo, s.Hi} {
			in := 0
			for _, s := range l {
				if s.Lo <= x && x <= s.Hi {
					in++
				}
			}
			if in >= n {
				least, most, some = min(least, x), max(most, x), true
			}
		}
	}
	return of(least, most), some
}

// P17.1: scattered numbers against the chapter.
func TestFuseScattered(t *testing.T) {
	row := scatter(171)
	seen := map[fused]int{}
	for i := range 400000 {
		near := row.any64()/2 + 1
		sensor := func() said {
			s := said{Fit: row.to(8) > 0, Span: row.wide()}
			if i%3 > 0 {
				s.Span = row.around(near+int64(row.to(100)), 100)
			}
			if !s.Fit && row.to(2) == 0 {
				s.Span = of(s.Span.Hi, s.Span.Lo)
			}
			return s
		}
		prior, three, accel := row.wide(), [3]said{sensor(), sensor(), sensor()}, sensor()
		if i%4 > 0 {
			prior = row.around(near, 300)
		}
		want := expected(prior, three, accel)
		wantFuse(t, prior, three, accel, want)
		if !want.Speed.In(prior) || !want.Speed.Right() {
			t.Errorf("Fuse(%v, %v, %v) has the speeds %v", prior, three, accel, want.Speed)
		}
		want.Speed = sp{}
		seen[want]++
	}
	// Each Fit with and without a conflict, and each slip.
	kinds := 0
	for f, n := range seen {
		if n < 30 {
			t.Errorf("only %d are %+v", n, f)
		}
		kinds++
	}
	if kinds != 2*(3+1+5) {
		t.Errorf("there are %d kinds of answers", kinds)
	}
}

// P17.1: the order of the three changes nothing but which of the first two slips, nor does the direction of the train, if what is said is not all but even.
func TestFuseOrder(t *testing.T) {
	row := scatter(172)
	for range 100000 {
		at := func() said { return said{row.to(6) > 0, row.within(-60, 60)} }
		prior, a, b, c, accel := row.within(-60, 60), at(), at(), at(), at()
		got := fuse.Fuse(prior, [3]said{a, b, c}, accel)
		want := got
		want.Slip = [2]int{got.Slip[1], got.Slip[0]}
		wantFuse(t, prior, [3]said{b, a, c}, accel, want)
		turned := func(s said) said { return said{s.Fit, back(s.Span)} }
		want = got
		want.Speed = back(got.Speed)
		two, _ := inMany([]sp{a.Span, b.Span, c.Span}, 2)
		if middle := two.Lo + two.Hi; middle < -1 || middle > 1 || got.Slip == [2]int{} {
			wantFuse(t, back(prior), [3]said{turned(a), turned(b), turned(c)}, turned(accel), want)
		}
	}
}

// P17.1: a speed that all say is in what is fused, and there is no conflict.
func TestFuseKeepsTheTruth(t *testing.T) {
	row := scatter(173)
	for range 200000 {
		v := row.from(-1<<24, 1<<24)
		prior, accel := row.around(v, 300), said{row.to(3) > 0, row.around(v, 200)}
		var three [3]said
		for i := range three {
			three[i] = said{row.to(4) > 0, row.around(v, 100)}
		}
		got := fuse.Fuse(prior, three, accel)
		if !got.Speed.Has(v) || got.Conflict || got.Slip != [2]int{} {
			t.Fatalf("Fuse(%v, %v, %v) = %+v; the speed is %d", prior, three, accel, got, v)
		}
	}
}

// P17.1: so is one that two of the three say, if all are fit and have no number in common.
func TestFuseKeepsWhatTwoSay(t *testing.T) {
	row := scatter(174)
	wrong := 0
	for range 200000 {
		v := row.from(-1<<24, 1<<24)
		prior, accel := row.around(v, 300), said{row.to(3) > 0, row.around(v, 200)}
		three := [3]said{{true, row.around(v, 100)}, {true, row.around(v, 100)}, {true, row.around(v, 100)}}
		i := row.to(3)
		three[i].Span = row.around(row.from(v-400, v+400), 100)
		if _, ok := inMany([]sp{three[0].Span, three[1].Span, three[2].Span}, 3); ok {
			continue
		}
		wrong++
		got := fuse.Fuse(prior, three, accel)
		if !got.Speed.Has(v) || got.Conflict || got.Clean || got.Fit != 3 {
			t.Fatalf("Fuse(%v, %v, %v) = %+v; the speed is %d", prior, three, accel, got, v)
		}
		// Only the wrong one slips, if any.
		for k, s := range got.Slip {
			if k != i && s != 0 {
				t.Fatalf("Fuse(%v, %v, %v) = %+v; only that with the index %d is wrong", prior, three, accel, got, i)
			}
		}
	}
	if wrong < 50000 {
		t.Errorf("only %d are wrong", wrong)
	}
}

// P17.1: a wheel that turns much faster than the other one and the radar say slips, and is not used; so with one that is braked.
func TestFuseOfWheels(t *testing.T) {
	circ := of(2900000, 3000000)
	tacho := func(d int64) said {
		s, err := sense.Tacho(d, circ, 100)
		if err != 0 {
			t.Fatalf("Tacho(%d) has the error %d", d, err)
		}
		return said{true, s}
	}
	prior, radar := of(200000, 400000), fit(295000, 301000)
	right := tacho(10)
	for _, x := range []struct {
		pulses int64
		slip   int
	}{{30, 1}, {13, 1}, {7, -1}, {0, -1}, {-10, -1}} {
		want := fused{Speed: of(295000, 301000), Fit: 3, Slip: [2]int{x.slip, 0}}
		wantFuse(t, prior, [3]said{tacho(x.pulses), right, radar}, off, want)
		want.Slip = [2]int{0, x.slip}
		wantFuse(t, prior, [3]said{right, tacho(x.pulses), radar}, off, want)
		// The same train backward.
		there := said{true, back(radar.Span)}
		want.Speed = back(want.Speed)
		wantFuse(t, back(prior), [3]said{tacho(-10), tacho(-x.pulses), there}, off, want)
	}
	wantFuse(t, prior, [3]said{right, tacho(11), radar}, off, fused{Speed: of(295000, 301000), Fit: 3, Clean: true})
}

// P1: any arguments end, without a panic, and twice alike.
func TestAnyNumbers(t *testing.T) {
	row := scatter(175)
	sensor := func() said { return said{row.to(5) > 0, of(row.any64(), row.any64())} }
	for range 200000 {
		prior, three, accel := of(row.any64(), row.any64()), [3]said{sensor(), sensor(), sensor()}, sensor()
		wantFuse(t, prior, three, accel, fuse.Fuse(prior, three, accel))
	}
	edges := []sp{of(least, most), of(most, least), of(0, 0), of(1, 0), of(least, least), of(most, most), of(most, most-1)}
	for _, prior := range edges {
		for _, a := range edges {
			for _, b := range edges {
				for _, c := range edges {
					three := [3]said{{true, a}, {true, b}, {true, c}}
					wantFuse(t, prior, three, said{true, b}, fuse.Fuse(prior, three, said{true, b}))
				}
			}
		}
	}
}
