package roll_test

import (
	"math"
	"math/big"
	"reflect"
	"testing"

	"odograph/api"
	"odograph/conf"
	"odograph/fuse"
	"odograph/roll"
	"odograph/sense"
	"odograph/span"
	"odograph/still"
)

const (
	least = math.MinInt64
	most  = math.MaxInt64

	// The most that Roll and a speed may be in a valid configuration.
	furthest = 1 << 30
	fastest  = 1 << 24
)

type (
	sp    = span.Span
	state = roll.Roll
)

func of(lo, hi int64) sp { return sp{Lo: lo, Hi: hi} }

// anchored is a train that has moved by one of these since it became anchored.
func anchored(moved sp, on bool) state { return state{Anchored: true, On: on, Moved: moved} }

// scatter is a row of numbers, always the same one.
type scatter uint64

func (s *scatter) next() uint64 {
	*s = *s*6364136223846793005 + 1442695040888963407
	return uint64(*s ^ *s>>31)
}

// to is a number of the row from 0 to n - 1.
func (s *scatter) to(n int) int { return int(s.next() >> 8 % uint64(n)) }

// odds is true once in n times.
func (s *scatter) odds(n int) bool { return s.to(n) == 0 }

// from is a number of the row from lo to hi, an end rather often.
func (s *scatter) from(lo, hi int64) int64 {
	switch s.to(6) {
	case 0:
		return lo
	case 1:
		return hi
	}
	return lo + int64(s.next()%uint64(hi-lo+1))
}

// within is a valid span of the row from lo to hi.
func (s *scatter) within(lo, hi int64) sp {
	a, b := s.from(lo, hi), s.from(lo, hi)
	return of(min(a, b), max(a, b))
}

// any64 is a number of the row that is near an edge rather often.
func (s *scatter) any64() int64 {
	edges := []int64{least, -1 << 31, -1 << 30, -1000, 0, 1, 2, 1000, 1 << 30, 1 << 31, most}
	if s.to(3) > 0 {
		return edges[s.to(len(edges))] + int64(s.to(3)) - 1
	}
	return int64(s.next()) >> s.to(64)
}

// any is a valid span of any numbers.
func (s *scatter) any() sp {
	a, b := s.any64(), s.any64()
	return of(min(a, b), max(a, b))
}

// wild is a configuration of any numbers.
func (s *scatter) wild() conf.Config {
	var c conf.Config
	v := reflect.ValueOf(&c).Elem()
	for i := range v.NumField() {
		v.Field(i).SetInt(s.any64())
	}
	return c
}

// config is a valid configuration of the row, whose Roll is small rather often.
func (s *scatter) config() conf.Config {
	for {
		c := conf.Config{Pulses: s.from(1, 1024), CircLo: s.from(1<<17, 1<<(18+s.to(6)))}
		c.CircHi = s.from(c.CircLo, min(c.CircLo+c.CircLo/16, 1<<23))
		c.RadBase, c.RadPart, c.AccErr = s.from(0, 1<<s.to(21)), s.from(0, 1<<16), s.from(0, 1<<20)
		c.MaxSpeed, c.MaxAccel = s.from(1, min(fastest, 32000*c.CircLo/c.Pulses)), s.from(1, 1<<20)
		c.Antenna, c.Still, c.Timeout = s.from(0, 1<<20), int(s.from(1, 6)), int(s.from(1, 1000))
		c.StillSpeed = s.from(max((c.CircHi+c.Pulses-1)/c.Pulses, 3*c.RadBase), fastest)
		c.Roll, c.Brake = s.from(0, 1<<s.to(31)), s.from(1, 1<<20)
		if err, _ := c.Check(); err == api.OK {
			return c
		}
	}
}

// train is a valid configuration of a train that may roll so far.
func train(t *testing.T, far int64) conf.Config {
	t.Helper()
	c := conf.Config{
		Pulses: 100, CircLo: 2900000, CircHi: 3000000, RadBase: 500, RadPart: 4000, AccErr: 300, MaxSpeed: 5000000, MaxAccel: 200000,
		Antenna: 400000, Still: 5, StillSpeed: 40000, Roll: far, Timeout: 20, Brake: 50000,
	}
	if err, rule := c.Check(); err != api.OK {
		t.Fatalf("%+v breaks rule %d", c, rule)
	}
	return c
}

// wantNext is Next's answer written out.
func wantNext(t *testing.T, r state, c conf.Config, still, command bool, speed sp, want state) {
	t.Helper()
	if got := r.Next(c, still, command, speed); got != want {
		t.Errorf("%+v.Next(%d, %t, %t, %v) = %+v; want %+v", r, c.Roll, still, command, speed, got, want)
	}
}

// sum is the sum of both spans, if its ends fit; else the first one.
func sum(s, t sp) sp {
	lo, hi := new(big.Int).Add(big.NewInt(s.Lo), big.NewInt(t.Lo)), new(big.Int).Add(big.NewInt(s.Hi), big.NewInt(t.Hi))
	if !lo.IsInt64() || !hi.IsInt64() {
		return s
	}
	return of(lo.Int64(), hi.Int64())
}

// gone tells whether all of a span is further away from 0 than far, in one direction.
func gone(s sp, far int64) bool {
	least, most := big.NewInt(far), new(big.Int).Neg(big.NewInt(far))
	return big.NewInt(s.Lo).Cmp(least) > 0 || big.NewInt(s.Hi).Cmp(most) < 0
}

// P19.1: the chapter's example, forward and backward.
func TestRollExample(t *testing.T) {
	c := train(t, 10)
	for _, speed := range []sp{of(4, 6), of(-6, -4)} {
		r := state{}.Next(c, true, false, speed)
		for n, want := range []state{anchored(sp{}, false), anchored(speed, false), anchored(of(2*speed.Lo, 2*speed.Hi), false), anchored(of(3*speed.Lo, 3*speed.Hi), true)} {
			if r != want {
				t.Errorf("after %d cycles of %v: %+v; want %+v", n, speed, r, want)
			}
			r = r.Next(c, false, false, speed)
		}
	}
}

// P19.1: a train that is commanded to move is not anchored, whatever was before, and whether it is still or not.
func TestNextCommand(t *testing.T) {
	for _, far := range []int64{0, 1, 10, 2000000, furthest} {
		c := train(t, far)
		for _, r := range []state{
			{}, {Moved: of(3, 4)}, {On: true, Moved: of(30, 40)}, anchored(sp{}, false), anchored(of(-1, 1), false),
			anchored(of(far+1, far+2), true), anchored(of(-far-2, -far-1), true), anchored(sp{}, true), anchored(of(least, most), true),
		} {
			for _, speed := range []sp{of(0, 0), of(4, 6), of(-6, -4), of(-5000000, 5000000), of(least, most), of(most, most), of(least, least)} {
				wantNext(t, r, c, true, true, speed, state{})
				wantNext(t, r, c, false, true, speed, state{})
			}
		}
	}
}

// P19.1: a train that was not anchored is so from the end of a still cycle on, and has moved by nothing then, whatever its speed was.
func TestNextNotAnchored(t *testing.T) {
	for _, far := range []int64{0, 1, 10, 2000000, furthest} {
		c := train(t, far)
		for _, r := range []state{{}, {On: true}, {Moved: of(3, 4)}, {Moved: of(least, most)}, {On: true, Moved: of(far+1, most)}, {On: true, Moved: of(least, -far-1)}} {
			for _, speed := range []sp{of(0, 0), of(4, 6), of(-6, -4), of(far+1, far+2), of(-far-2, -far-1), of(-5000000, 5000000), of(least, most), of(most, most), of(least, least)} {
				wantNext(t, r, c, true, false, speed, anchored(sp{}, false))
				wantNext(t, r, c, false, false, speed, state{})
			}
		}
	}
}

// P19.1: when it rolls, at each edge of Roll and beside it, forward and backward.
func TestNextEdges(t *testing.T) {
	for _, far := range []int64{0, 1, 2, 10, 2000000, furthest - 1, furthest} {
		c := train(t, far)
		rolls := []sp{of(far+1, far+1), of(far+1, far+2), of(far+1, 4*far+9), of(far+2, far+2), of(far+1, most), of(most, most)}
		stays := []sp{
			of(0, 0), of(far, far), of(far, far+1), of(far, most), of(-far, far), of(-far-1, far+1), of(-far-1, most), of(0, far+1), of(-1, far+1),
			of(-far, far+1), of(least, most), of(-far, most), of(far, 4*far+9),
		}
		for _, still := range []bool{true, false} {
			for i, moved := range append(rolls, stays...) {
				on := i < len(rolls)
				// -most is where the least number would not fit.
				back := of(-moved.Hi, -max(moved.Lo, -most))
				for _, now := range []sp{moved, back} {
					wantNext(t, anchored(now, false), c, still, false, of(0, 0), anchored(now, on))
					wantNext(t, anchored(now, true), c, still, false, of(0, 0), anchored(now, true))
					wantNext(t, anchored(sp{}, false), c, still, false, now, anchored(now, on))
					wantNext(t, anchored(sp{}, true), c, still, false, now, anchored(now, true))
				}
			}
		}
	}
}

// P19.1: a sum that does not fit leaves Moved as it was; whether the train rolls is told by that.
func TestNextSumTooGreat(t *testing.T) {
	c := train(t, 10)
	for _, still := range []bool{true, false} {
		for _, on := range []bool{true, false} {
			for _, moved := range []struct {
				now, by sp
				rolls   bool
			}{
				{of(11, most), of(-20, 1), true},
				{of(10, most), of(1, 1), false},
				{of(most, most), of(1, 1), true},
				{of(most, most), of(most, most), true},
				{of(least, least), of(-1, -1), true},
				{of(least, -11), of(-1, 40), true},
				{of(least, -10), of(-1, -1), false},
				{of(least, most), of(0, 1), false},
				{of(least, most), of(-1, 0), false},
				{of(least, most), of(-1, 1), false},
				{of(least, 5), of(-1, most), false},
				{of(5, 5), of(0, most), false},
				{of(5, 5), of(30, most), false},
				{of(-5, -5), of(least, -30), false},
				{of(0, 1), of(most, most), false},
				{of(-1, 0), of(least, least), false},
			} {
				wantNext(t, anchored(moved.now, on), c, still, false, moved.by, anchored(moved.now, on || moved.rolls))
			}
			// These fit just so.
			wantNext(t, anchored(of(most-1, most-1), on), c, still, false, of(1, 1), anchored(of(most, most), true))
			wantNext(t, anchored(of(least+1, most-1), on), c, still, false, of(-1, 1), anchored(of(least, most), on))
			wantNext(t, anchored(of(least, least), on), c, still, false, of(most, most), anchored(of(-1, -1), on))
			wantNext(t, anchored(of(0, 0), on), c, still, false, of(least, most), anchored(of(least, most), on))
			wantNext(t, anchored(of(0, 0), on), c, still, false, of(least, least), anchored(of(least, least), true))
		}
	}
}

// P19.1: all small spans against the chapter, number by number.
func TestNextSmall(t *testing.T) {
	for far := range int64(4) {
		c := train(t, far)
		for lo := int64(-6); lo <= 6; lo++ {
			for hi := lo; hi <= 6; hi++ {
				for by := int64(-6); by <= 6; by++ {
					for wide := range int64(4) {
						sums := map[int64]bool{}
						ahead, behind := true, true
						for a := lo; a <= hi; a++ {
							for b := by; b <= by+wide; b++ {
								sums[a+b] = true
								ahead, behind = ahead && a+b > far, behind && a+b < -far
							}
						}
						moved := of(lo+by, hi+by+wide)
						if len(sums) != int(moved.Width())+1 {
							t.Fatalf("%v has not all sums of %d to %d and %d to %d", moved, lo, hi, by, by+wide)
						}
						wantNext(t, anchored(of(lo, hi), false), c, by%2 == 0, false, of(by, by+wide), anchored(moved, ahead || behind))
						wantNext(t, anchored(of(lo, hi), true), c, by%2 == 0, false, of(by, by+wide), anchored(moved, true))
					}
				}
			}
		}
	}
}

// P19.1: once it rolls, it is told as long as it is anchored, though it rolls back; the next time begins anew.
func TestRollStaysOn(t *testing.T) {
	c := train(t, 10)
	for _, by := range []int64{1, -1} {
		r := anchored(sp{}, false)
		for _, step := range []struct{ speed, moved int64 }{{11, 11}, {-5, 6}, {-6, 0}, {0, 0}, {-11, -11}, {11, 0}} {
			r = r.Next(c, step.moved == 0, false, of(by*step.speed, by*step.speed))
			if want := anchored(of(by*step.moved, by*step.moved), true); r != want {
				t.Errorf("%+v; want %+v", r, want)
			}
		}
		r = r.Next(c, true, true, of(0, 0))
		r = r.Next(c, true, false, of(11, 11))
		if want := anchored(sp{}, false); r != want {
			t.Errorf("anchored anew: %+v; want %+v", r, want)
		}
		wantNext(t, r, c, true, false, of(by*10, by*10), anchored(of(by*10, by*10), false))
	}
}

// told is what a cycle tells.
type told struct {
	still, command bool
	speed          sp
}

// P19.1: scattered cycles against the chapter, by all that was told up to now.
func TestRollScattered(t *testing.T) {
	row := scatter(191)
	stays, rolls, free := 0, 0, 0
	for range 5000 {
		c := row.config()
		far := row.from(1, max(1, min(c.Roll, c.MaxSpeed)))
		var r state
		var cycles []told
		for range 60 {
			now := told{still: row.odds(3), command: row.odds(12), speed: row.within(-far, far)}
			if row.odds(2) {
				now.speed = span.At(row.from(-far, far))
			}
			r = r.Next(c, now.still, now.command, now.speed)
			cycles = append(cycles, now)
			want := byChapter(c, cycles)
			if r != want {
				t.Fatalf("%+v after %+v, with %d; want %+v", r, cycles, c.Roll, want)
			}
			switch {
			case r.On:
				rolls++
			case r.Anchored:
				stays++
			default:
				free++
			}
		}
	}
	if min(stays, rolls, free) < 30000 {
		t.Errorf("anchored %d times, rolling %d times, and not anchored %d times", stays, rolls, free)
	}
}

// byChapter is what the chapter says behind all these cycles.
func byChapter(c conf.Config, cycles []told) state {
	after := 0
	for i, now := range cycles {
		if now.command {
			after = i + 1
		}
	}
	for after < len(cycles) && !cycles[after].still {
		after++
	}
	if after == len(cycles) {
		return state{}
	}
	r := anchored(sp{}, false)
	for _, now := range cycles[after+1:] {
		r.Moved.Lo += now.speed.Lo
		r.Moved.Hi += now.speed.Hi
		if r.Moved.Lo > c.Roll || r.Moved.Hi < -c.Roll {
			r.On = true
		}
	}
	return r
}

// P19.1: a single step from any state, with any numbers, against sums that cannot be too great.
func TestNextAgainstSums(t *testing.T) {
	row := scatter(192)
	left, on := 0, 0
	for range 400000 {
		c := train(t, row.from(0, 1<<row.to(31)))
		r := anchored(row.any(), row.odds(4))
		speed := row.any()
		moved := sum(r.Moved, speed)
		if moved == r.Moved && speed != of(0, 0) {
			left++
		}
		rolls := gone(moved, c.Roll)
		if rolls && !r.On {
			on++
		}
		wantNext(t, r, c, row.odds(2), false, speed, anchored(moved, r.On || rolls))
	}
	if min(left, on) < 20000 {
		t.Errorf("left as it was %d times, and rolling %d times", left, on)
	}
}

// P19.1: nothing but Roll decides, once the train is anchored not even whether it is still; nor does its direction.
func TestRollOfConfig(t *testing.T) {
	row := scatter(193)
	for range 100000 {
		c := row.config()
		far := c.Roll + 2
		r := state{Anchored: !row.odds(4), On: row.odds(4), Moved: row.within(-far, far)}
		still, command, speed := row.odds(2), row.odds(4), row.within(-far, far)
		next := r.Next(c, still, command, speed)
		wantNext(t, r, conf.Config{Roll: c.Roll}, still, command, speed, next)
		if r.Anchored {
			wantNext(t, r, c, !still, command, speed, next)
		}
		r.Moved, next.Moved = of(-r.Moved.Hi, -r.Moved.Lo), of(-next.Moved.Hi, -next.Moved.Lo)
		wantNext(t, r, c, still, command, of(-speed.Hi, -speed.Lo), next)
	}
}

// P19.1: a train whose speed is in the span of each cycle has moved by one of Moved; if it is told to roll, it has moved too far, and it is told at the latest when it has moved further by Moved's width.
func TestRollOfTruth(t *testing.T) {
	row := scatter(194)
	rolls, quiet := 0, 0
	for range 20000 {
		c := row.config()
		fast := row.from(1, max(1, min(c.MaxSpeed, c.Roll/4+1)))
		wide := row.from(0, fast)
		r := state{}.Next(c, true, false, row.within(-fast, fast))
		away, furthest := int64(0), int64(0)
		for range 40 {
			v := row.from(-fast/4, fast)
			r = r.Next(c, row.odds(2), false, of(v-row.from(0, wide), v+row.from(0, wide)))
			away += v
			furthest = max(furthest, away, -away)
			if !r.Anchored || !r.Moved.Has(away) {
				t.Fatalf("the train has moved by %d: %+v", away, r)
			}
			if r.On && furthest <= c.Roll {
				t.Fatalf("%+v, though the train has moved by no more than %d of %d", r, furthest, c.Roll)
			}
			if !r.On && uint64(max(away, -away)) > uint64(c.Roll)+r.Moved.Width() {
				t.Fatalf("%+v, though the train has moved by %d of %d", r, away, c.Roll)
			}
			if r.On {
				rolls++
			} else {
				quiet++
			}
		}
	}
	if min(rolls, quiet) < 100000 {
		t.Errorf("rolling %d times, and not %d times", rolls, quiet)
	}
}

// P19.1: a train that stood until it was still, and then rolls away, by what its sensors tell: it is told to roll when it does so, and is not when it is commanded to.
func TestRollOfSensors(t *testing.T) {
	row := scatter(195)
	c := train(t, 2000000)
	for range 300 {
		speed, away := of(0, 0), int64(0)
		var s still.Still
		var r state
		for range c.Still {
			speed = row.hear(t, c, speed, 0)
			s = s.Next(c, speed, 3)
			r = r.Next(c, s.On, false, speed)
		}
		if r != anchored(sp{}, false) {
			t.Fatalf("a train that stands: %+v", r)
		}
		commanded := r
		for v := int64(0); !r.On; v = min(v+row.from(0, c.MaxAccel), c.MaxSpeed) {
			speed = row.hear(t, c, speed, v)
			away += v
			s = s.Next(c, speed, 3)
			r = r.Next(c, s.On, false, speed)
			commanded = commanded.Next(c, s.On, true, speed)
			if !r.Moved.Has(away) || r.On != (r.Moved.Lo > c.Roll) || commanded != (state{}) {
				t.Fatalf("moved by %d: %+v, and %+v if commanded", away, r, commanded)
			}
		}
		if away <= c.Roll {
			t.Fatalf("moved by %d: %+v", away, r)
		}
	}
}

// hear is the speed by two tachometers and a radar of a train with such a speed, which was one of these before.
func (s *scatter) hear(t *testing.T, c conf.Config, before sp, v int64) sp {
	t.Helper()
	circ := s.from(c.CircLo, c.CircHi)
	wheel, err := sense.Tacho(v*c.Pulses/circ, c.Circ(), c.Pulses)
	if err != api.OK {
		t.Fatalf("Tacho at %d has the error %d", v, err)
	}
	radar := fuse.Sensor{Fit: true, Span: sense.Radar(c, v+s.from(-c.RadBase, c.RadBase))}
	tacho := fuse.Sensor{Fit: true, Span: wheel}
	f := fuse.Fuse(sense.Prior(c, before), [3]fuse.Sensor{tacho, tacho, radar}, fuse.Sensor{})
	if !f.Speed.Has(v) {
		t.Fatalf("%d is not in %v", v, f.Speed)
	}
	return f.Speed
}

// P1: any arguments end, without a panic, and twice alike.
func TestAnyNumbers(t *testing.T) {
	row := scatter(196)
	for range 300000 {
		c, speed := row.wild(), of(row.any64(), row.any64())
		r := state{Anchored: !row.odds(4), On: row.odds(2), Moved: of(row.any64(), row.any64())}
		still, command := row.odds(2), row.odds(4)
		wantNext(t, r, c, still, command, speed, r.Next(c, still, command, speed))
	}
	edges := []int64{least, least + 1, -1, 0, 1, most - 1, most}
	for _, far := range edges {
		for _, lo := range edges {
			for _, hi := range edges {
				for _, speed := range []sp{of(least, most), of(most, least), of(0, 0), of(1, 0), of(least, least), of(most, most)} {
					c, r := conf.Config{Roll: far}, anchored(of(lo, hi), false)
					wantNext(t, r, c, true, false, speed, r.Next(c, true, false, speed))
				}
			}
		}
	}
}
