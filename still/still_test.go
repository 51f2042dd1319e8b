package still_test

import (
	"math"
	"reflect"
	"testing"

	"odograph/api"
	"odograph/conf"
	"odograph/fuse"
	"odograph/sense"
	"odograph/span"
	"odograph/still"
)

const (
	least = math.MinInt64
	most  = math.MaxInt64

	// The ends of StillSpeed in a valid configuration.
	slowest = 128
	fastest = 1 << 24
)

type (
	sp    = span.Span
	state = still.Still
)

func of(lo, hi int64) sp { return sp{Lo: lo, Hi: hi} }

// scatter is a row of numbers, always the same one.
type scatter uint64

func (s *scatter) next() uint64 {
	*s = *s*6364136223846793005 + 1442695040888963407
	return uint64(*s ^ *s>>31)
}

// to is a number of the row from 0 to n - 1.
func (s *scatter) to(n int) int { return int(s.next() >> 8 % uint64(n)) }

// from is a number of the row from lo to hi, an end rather often.
func (s *scatter) from(lo, hi int64) int64 {
	switch s.to(6) {
	case 0:
		return lo
	case 1:
		return hi
	}
	return lo + int64(s.next()%uint64(hi-lo+1))
}

// within is a valid span of the row from lo to hi.
func (s *scatter) within(lo, hi int64) sp {
	a, b := s.from(lo, hi), s.from(lo, hi)
	return of(min(a, b), max(a, b))
}

// any64 is a number of the row that is near an edge rather often.
func (s *scatter) any64() int64 {
	edges := []int64{least, -1 << 31, -1 << 24, -1000, 0, 1, 2, 1000, 1 << 24, 1 << 31, most}
	if s.to(3) > 0 {
		return edges[s.to(len(edges))] + int64(s.to(3)) - 1
	}
	return int64(s.next()) >> s.to(64)
}

// wild is a configuration of any numbers.
func (s *scatter) wild() conf.Config {
	var c conf.Config
	v := reflect.ValueOf(&c).Elem()
	for i := range v.NumField() {
		v.Field(i).SetInt(s.any64())
	}
	return c
}

// config is a valid configuration of the row, whose StillSpeed is the least one rather often.
func (s *scatter) config() conf.Config {
	for {
		c := conf.Config{Pulses: s.from(1, 1024), CircLo: s.from(1<<17, 1<<(18+s.to(6)))}
		c.CircHi = s.from(c.CircLo, min(c.CircLo+c.CircLo/16, 1<<23))
		c.RadBase, c.RadPart, c.AccErr = s.from(0, 1<<s.to(21)), s.from(0, 1<<16), s.from(0, 1<<20)
		c.MaxSpeed, c.MaxAccel = s.from(1, min(1<<24, 32000*c.CircLo/c.Pulses)), s.from(1, 1<<20)
		c.Antenna, c.Still, c.Timeout = s.from(0, 1<<20), int(s.from(1, 6)), int(s.from(1, 1000))
		c.StillSpeed = s.from(max((c.CircHi+c.Pulses-1)/c.Pulses, 3*c.RadBase), fastest)
		c.Roll, c.Brake = s.from(0, 1<<30), s.from(1, 1<<20)
		if err, _ := c.Check(); err == api.OK {
			return c
		}
	}
}

// train is a valid configuration of a train that is still after so many cycles up to such a speed.
func train(t *testing.T, cycles int, speed int64) conf.Config {
	t.Helper()
	c := conf.Config{
		Pulses: 1024, CircLo: 1 << 17, CircHi: 1 << 17, RadBase: 40, RadPart: 4000, AccErr: 300, MaxSpeed: 4000000, MaxAccel: 200000,
		Antenna: 400000, Still: cycles, StillSpeed: speed, Roll: 2000000, Timeout: 20, Brake: 50000,
	}
	if err, rule := c.Check(); err != api.OK {
		t.Fatalf("%+v breaks rule %d", c, rule)
	}
	return c
}

// wantSlow is Slow's answer written out.
func wantSlow(t *testing.T, c conf.Config, speed sp, want bool) {
	t.Helper()
	if got := still.Slow(c, speed); got != want {
		t.Errorf("Slow(%d, %v) = %t", c.StillSpeed, speed, got)
	}
}

// wantNext is Next's answer written out.
func wantNext(t *testing.T, s state, c conf.Config, speed sp, fit int, want state) {
	t.Helper()
	if got := s.Next(c, speed, fit); got != want {
		t.Errorf("%+v.Next(%d and %d, %v, %d) = %+v; want %+v", s, c.Still, c.StillSpeed, speed, fit, got, want)
	}
}

// P18.1: the chapter's example, and the same with a valid configuration.
func TestStillExample(t *testing.T) {
	for _, c := range []conf.Config{{Still: 2, StillSpeed: 5}, train(t, 2, slowest)} {
		by := c.StillSpeed / 5
		s := state{}.Next(c, of(-by, 3*by), 1)
		if s != (state{1, false}) {
			t.Errorf("after one cycle: %+v", s)
		}
		s = s.Next(c, of(0, c.StillSpeed), 1)
		if s != (state{2, true}) {
			t.Errorf("after two cycles: %+v", s)
		}
		wantNext(t, s, c, of(0, c.StillSpeed+1), 1, state{})
	}
}

// P18.1: which spans are slow, at each edge and just beyond it.
func TestSlow(t *testing.T) {
	for _, v := range []int64{slowest, slowest + 1, 5000, 40000, fastest - 1, fastest} {
		c := train(t, 3, v)
		for _, speed := range []sp{
			of(-v, v), of(0, 0), of(-1, 1), of(1, 1), of(-1, -1), of(-v, -v), of(v, v), of(-v, 0), of(0, v), of(-v, -1), of(1, v),
			of(1-v, v-1), of(-v, v-1), of(1-v, v), of(v-1, v), of(-v, 1-v), of(-v/2, v/3), of(v/3, v/2), of(-v/2, -v/3),
		} {
			wantSlow(t, c, speed, true)
		}
		for _, speed := range []sp{
			of(-v-1, v+1), of(-v, v+1), of(-v-1, v), of(0, v+1), of(-v-1, 0), of(v, v+1), of(-v-1, -v), of(v+1, v+1), of(-v-1, -v-1),
			of(v+1, 2*v), of(-2*v, -v-1), of(-1, 2*v), of(-2*v, 1), of(-4000000-v, 4000000+v),
			of(least, most), of(least, -v), of(least, v), of(-v, most), of(v, most), of(least, least), of(most, most), of(0, most), of(least, 0),
		} {
			wantSlow(t, c, speed, false)
		}
	}
}

// P18.1: all small spans against the chapter, speed by speed.
func TestSlowSmall(t *testing.T) {
	const v = slowest
	c := train(t, 3, v)
	for lo := int64(-v - 3); lo <= v+3; lo++ {
		slow := true
		for hi := lo; hi <= v+3; hi++ {
			slow = slow && -v <= hi && hi <= v
			wantSlow(t, c, of(lo, hi), slow)
		}
	}
}

// P18.1: from each state on, where the train stands, and where it is not known to.
func TestNext(t *testing.T) {
	const v = 5000
	slow := []sp{of(-v, v), of(0, 0), of(v, v), of(-v, -v), of(-3, 7)}
	fast := []sp{of(-v, v+1), of(-v-1, v), of(v+1, v+1), of(-v-1, -v-1), of(20000, 30000), of(-4000000, 4000000)}
	for _, cycles := range []int{1, 2, 3, 10, 999, 1000} {
		c := train(t, cycles, v)
		for count := range cycles + 1 {
			for _, s := range []state{{count, false}, {count, true}} {
				want := state{count + 1, count+1 == cycles}
				if count == cycles {
					want = state{cycles, true}
				}
				for i, speed := range slow {
					wantNext(t, s, c, speed, 1+i%3, want)
					wantNext(t, s, c, speed, -i, state{})
				}
				for i, speed := range fast {
					wantNext(t, s, c, speed, i%4, state{})
				}
			}
		}
	}
}

// P18.1: how many sensors are fit does not matter, if there is one.
func TestNextFit(t *testing.T) {
	c := train(t, 2, 5000)
	for _, s := range []state{{}, {1, false}, {2, true}} {
		for _, fit := range []int{1, 2, 3, 4, 1000, math.MaxInt} {
			wantNext(t, s, c, of(-5000, 5000), fit, s.Next(c, of(0, 0), 1))
			wantNext(t, s, c, of(-5000, 5001), fit, state{})
		}
		for _, fit := range []int{0, -1, -2, -3, -1000, math.MinInt} {
			wantNext(t, s, c, of(0, 0), fit, state{})
			wantNext(t, s, c, of(-5000, 5000), fit, state{})
			wantNext(t, s, c, of(-5000, 5001), fit, state{})
		}
	}
}

// P18.1: as many cycles as count, one after the other: one that is not slow, or without a sensor, begins the count anew.
func TestStillOfCycles(t *testing.T) {
	slow, fast := of(-5000, 5000), of(-5000, 5001)
	for _, cycles := range []int{1, 2, 5, 1000} {
		c := train(t, cycles, 5000)
		for _, stop := range []struct {
			speed sp
			fit   int
		}{{fast, 1}, {fast, 3}, {slow, 0}, {fast, 0}} {
			for before := range min(cycles, 20) + 3 {
				var s state
				for range before {
					s = s.Next(c, slow, 1)
				}
				s = s.Next(c, stop.speed, stop.fit)
				if s != (state{}) {
					t.Errorf("after %d cycles and then %v with %d: %+v", before, stop.speed, stop.fit, s)
				}
				for n := 1; n <= cycles+3; n++ {
					s = s.Next(c, slow, 1)
					if want := (state{min(n, cycles), n >= cycles}); s != want {
						t.Fatalf("%d of %d cycles later: %+v; want %+v", n, cycles, s, want)
					}
				}
			}
		}
	}
}

// P18.1: scattered cycles against the chapter, by all that was told up to now; a train that is still, and whose speed is in the span, is no faster than StillSpeed.
func TestStillScattered(t *testing.T) {
	row := scatter(181)
	stands, counts, breaks := 0, 0, 0
	for range 4000 {
		c := row.config()
		slow := of(-c.StillSpeed, c.StillSpeed)
		var s state
		var stood []bool
		for range 60 {
			speed, fit := row.within(slow.Lo, slow.Hi), row.to(3)+1
			switch row.to(12) {
			case 0:
				speed = row.within(slow.Lo-2, slow.Hi+2)
			case 1:
				speed = row.within(2*slow.Lo, 2*slow.Hi)
			case 2:
				fit = -row.to(2)
			}
			s = s.Next(c, speed, fit)
			stood = append(stood, fit >= 1 && speed.Lo >= slow.Lo && speed.Hi <= slow.Hi)
			n := 0
			for n < len(stood) && n < c.Still && stood[len(stood)-1-n] {
				n++
			}
			if want := (state{n, n == c.Still}); s != want {
				t.Fatalf("%+v after %v, of %d; want %+v", s, stood, c.Still, want)
			}
			switch v := row.from(speed.Lo, speed.Hi); {
			case s.On && max(v, -v) > c.StillSpeed:
				t.Fatalf("still at %d of %v, faster than %d", v, speed, c.StillSpeed)
			case s.On:
				stands++
			case n > 0:
				counts++
			default:
				breaks++
			}
		}
	}
	if min(stands, counts, breaks) < 20000 {
		t.Errorf("still %d times, on the way to it %d times, and not %d times", stands, counts, breaks)
	}
}

// P18.1: nothing but Still and StillSpeed decides.
func TestStillOfConfig(t *testing.T) {
	row := scatter(182)
	for range 100000 {
		c := row.config()
		speed, fit := row.within(-c.StillSpeed-1, c.StillSpeed+1), row.to(4)
		s := state{row.to(c.Still + 1), row.to(2) == 0}
		bare := conf.Config{Still: c.Still, StillSpeed: c.StillSpeed}
		wantSlow(t, bare, speed, still.Slow(c, speed))
		wantNext(t, s, bare, speed, fit, s.Next(c, speed, fit))
		// What was On before does not decide either.
		s.On = !s.On
		wantNext(t, s, bare, speed, fit, s.Next(c, speed, fit))
		// Nor does the direction of the train.
		wantNext(t, s, c, of(-speed.Hi, -speed.Lo), fit, s.Next(c, speed, fit))
	}
}

// P18.1: a train that stands is still after so many cycles, each with a sensor that is fit, whatever a radar may tell of it, and though one of three tells something else.
func TestStillOfTrainThatStands(t *testing.T) {
	row := scatter(183)
	for range 20000 {
		c := row.config()
		var s state
		for cycle := 1; cycle <= c.Still+1; cycle++ {
			f := fuse.Fuse(sense.Prior(c, of(0, 0)), row.standing(t, c), fuse.Sensor{})
			s = s.Next(c, f.Speed, f.Fit)
			if want := (state{min(cycle, c.Still), cycle >= c.Still}); s != want {
				t.Fatalf("%+v in cycle %d of %+v, with the speeds %v; want %+v", s, cycle, c, f.Speed, want)
			}
		}
		// An accelerometer alone does not tell it, however slow the train is.
		f := fuse.Fuse(sense.Prior(c, of(0, 0)), [3]fuse.Sensor{}, fuse.Sensor{Fit: true, Span: of(0, 0)})
		wantNext(t, s, c, f.Speed, f.Fit, state{})
	}
}

// standing is what two tachometers and a radar can tell of a train that stands: of one or two of them all is right, of three that of two.
func (s *scatter) standing(t *testing.T, c conf.Config) [3]fuse.Sensor {
	t.Helper()
	wheel, err := sense.Tacho(0, c.Circ(), c.Pulses)
	if err != api.OK {
		t.Fatalf("Tacho of %+v has the error %d", c, err)
	}
	r := s.from(-2*c.RadBase, 2*c.RadBase)
	for r > c.Error(r) || -r > c.Error(r) {
		r /= 2
	}
	three := [3]fuse.Sensor{{Fit: true, Span: wheel}, {Fit: true, Span: wheel}, {Fit: true, Span: sense.Radar(c, r)}}
	switch i := s.to(3); s.to(3) {
	case 0:
		three[i] = fuse.Sensor{}
	case 1:
		three[i], three[(i+1)%3] = fuse.Sensor{}, fuse.Sensor{}
	default:
		three[i].Span = s.within(-c.MaxSpeed, c.MaxSpeed)
	}
	return three
}

// P1: any arguments end, without a panic, and twice alike.
func TestAnyNumbers(t *testing.T) {
	row := scatter(184)
	for range 300000 {
		c, speed := row.wild(), of(row.any64(), row.any64())
		s, fit := state{int(row.any64()), row.to(2) == 0}, int(row.any64())
		wantSlow(t, c, speed, still.Slow(c, speed))
		wantNext(t, s, c, speed, fit, s.Next(c, speed, fit))
	}
	edges := []int64{least, least + 1, -1, 0, 1, most - 1, most}
	for _, a := range edges {
		for _, b := range edges {
			c := conf.Config{Still: int(a), StillSpeed: b}
			for _, count := range edges {
				for _, speed := range []sp{of(least, most), of(most, least), of(0, 0), of(1, 0), of(least, least), of(most, most)} {
					s := state{int(count), count > 0}
					wantSlow(t, c, speed, still.Slow(c, speed))
					wantNext(t, s, c, speed, 1, s.Next(c, speed, 1))
				}
			}
		}
	}
}
