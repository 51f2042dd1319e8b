package sense_test

import (
	"math"
	"math/big"
	"reflect"
	"testing"

	"odograph/api"
	"odograph/conf"
	"odograph/sense"
	"odograph/span"
)

const (
	least = math.MinInt64
	most  = math.MaxInt64
)

type sp = span.Span

func of(lo, hi int64) sp { return sp{Lo: lo, Hi: hi} }

// scatter is a row of numbers, always the same one.
type scatter uint64

func (s *scatter) next() uint64 {
	*s = *s*6364136223846793005 + 1442695040888963407
	return uint64(*s ^ *s>>31)
}

// to is a number of the row from 0 to n - 1.
func (s *scatter) to(n int) int { return int(s.next() >> 8 % uint64(n)) }

// from is a number of the row from lo to hi, an end rather often.
func (s *scatter) from(lo, hi int64) int64 {
	switch s.to(6) {
	case 0:
		return lo
	case 1:
		return hi
	}
	return lo + int64(s.next()%uint64(hi-lo+1))
}

// within is a valid span of the row from lo to hi.
func (s *scatter) within(lo, hi int64) sp {
	a, b := s.from(lo, hi), s.from(lo, hi)
	return of(min(a, b), max(a, b))
}

// any64 is a number of the row that is near an edge rather often.
func (s *scatter) any64() int64 {
	edges := []int64{least, -1 << 40, -1 << 31, -1 << 15, 0, 1, 2, 1 << 15, 1 << 17, 1 << 20, 1 << 23, 1 << 24, 1 << 31, 1 << 40, 1 << 47, 1 << 48, most}
	if s.to(3) > 0 {
		return edges[s.to(len(edges))] + int64(s.to(3)) - 1
	}
	return int64(s.next()) >> s.to(64)
}

// wild is a configuration of any numbers.
func (s *scatter) wild() conf.Config {
	var c conf.Config
	v := reflect.ValueOf(&c).Elem()
	for i := range v.NumField() {
		v.Field(i).SetInt(s.any64())
	}
	return c
}

// config is a valid configuration of the row.
func (s *scatter) config() conf.Config {
	for {
		c := conf.Config{Pulses: s.from(1, 1024), CircLo: s.from(1<<17, 1<<(18+s.to(6)))}
		c.CircHi = s.from(c.CircLo, min(c.CircLo+c.CircLo/16, 1<<23))
		c.RadBase, c.RadPart, c.AccErr = s.from(0, 1<<20), s.from(0, 1<<16), s.from(0, 1<<20)
		c.MaxSpeed, c.MaxAccel = s.from(1, min(1<<24, 32000*c.CircLo/c.Pulses)), s.from(1, 1<<20)
		c.Antenna, c.Still, c.Timeout = s.from(0, 1<<20), int(s.from(1, 1000)), int(s.from(1, 1000))
		c.StillSpeed, c.Roll, c.Brake = 1<<24, s.from(0, 1<<30), s.from(1, 1<<20)
		if err, _ := c.Check(); err == api.OK {
			return c
		}
	}
}

// train is a valid configuration in which no number is at an edge.
func train() conf.Config {
	return conf.Config{
		Pulses: 100, CircLo: 2900000, CircHi: 3000000, RadBase: 500, RadPart: 4000, AccErr: 300, MaxSpeed: 5000000, MaxAccel: 200000,
		Antenna: 400000, Still: 5, StillSpeed: 40000, Roll: 2000000, Timeout: 20, Brake: 50000,
	}
}

// with is train with a change, which leaves it valid.
func with(t *testing.T, change func(c *conf.Config)) conf.Config {
	t.Helper()
	c := train()
	change(&c)
	if err, rule := c.Check(); err != api.OK {
		t.Fatalf("%+v breaks rule %d", c, rule)
	}
	return c
}

// wantTacho is Tacho's answer written out.
func wantTacho(t *testing.T, d int64, circ sp, pulses int64, want sp, err api.Errno) {
	t.Helper()
	if got, e := sense.Tacho(d, circ, pulses); got != want || e != err {
		t.Errorf("Tacho(%d, %v, %d) = %v, %d; want %v, %d", d, circ, pulses, got, e, want, err)
	}
}

// P15.1: speeds written out, the chapter's example first.
func TestTachoWrittenOut(t *testing.T) {
	wheel, worn := of(1000, 1010), of(2900000, 3000000)
	for _, x := range []struct {
		d      int64
		circ   sp
		pulses int64
		want   sp
	}{
		{5, wheel, 10, of(400, 606)},
		{-5, wheel, 10, of(-606, -400)},
		{0, wheel, 10, of(-101, 101)},
		{1, wheel, 10, of(0, 202)},
		{-1, wheel, 10, of(-202, 0)},
		{2, wheel, 10, of(100, 303)},
		{-2, wheel, 10, of(-303, -100)},
		// Of both ends, Lo is rounded down, and Hi up.
		{5, wheel, 7, of(571, 866)},
		{-5, wheel, 7, of(-866, -571)},
		{0, wheel, 7, of(-145, 145)},
		{0, of(1, 1), 1024, of(-1, 1)},
		{2, of(1, 1), 1024, of(0, 1)},
		{-2, of(1, 1), 1024, of(-1, 0)},
		{10, worn, 100, of(261000, 330000)},
		{-10, worn, 100, of(-330000, -261000)},
		{0, worn, 100, of(-30000, 30000)},
		{3, of(10, 10), 1, of(20, 40)},
		// The most pulses of a cycle, in both directions.
		{32767, wheel, 1, of(32766000, 33095680)},
		{-32768, wheel, 1, of(-33096690, -32767000)},
		{32767, of(1<<23, 1<<23), 1, of(274861129728, 274877906944)},
		{-32768, of(1<<23, 1<<23), 1, of(-274886295552, -274869518336)},
		{32767, wheel, 10, of(3276600, 3309568)},
		{-32768, wheel, 10, of(-3309669, -3276700)},
		// It is promised of any span and any pulses, not of those of a wheel alone.
		{5, of(0, 0), 10, of(0, 0)},
		{5, of(-1010, -1000), 10, of(-606, -400)},
		{-5, of(-1010, -1000), 10, of(400, 606)},
		{0, of(-1010, -1000), 10, of(-101, 101)},
		{5, of(-3, 4), 10, of(-2, 3)},
		{0, of(-3, 4), 1, of(-4, 4)},
		{0, of(-3, 0), 2, of(-2, 2)},
		{0, of(0, most), 1, of(-most, most)},
		{0, of(least+1, 0), 1, of(-most, most)},
		{0, of(least, most), 2, of(-1<<62, 1<<62)},
		{5, wheel, most, of(0, 1)},
		{-5, wheel, most, of(-1, 0)},
		{2, of(least, most), most, of(-4, 3)},
	} {
		wantTacho(t, x.d, x.circ, x.pulses, x.want, api.OK)
	}
}

// P15.1: what is not valid is told, whatever else there is.
func TestTachoRange(t *testing.T) {
	for _, d := range []int64{least, least + 1, -1 << 32, -65536, -32770, -32769, 32768, 32769, 65535, 65536, 1 << 32, most - 1, most} {
		for _, circ := range []sp{of(1000, 1010), of(0, 0), of(least, most), of(most, most), of(1010, 1000), of(most, least)} {
			for _, pulses := range []int64{least, -1, 0, 1, 10, most} {
				wantTacho(t, d, circ, pulses, sp{}, api.ErrRange)
			}
		}
	}
	for _, d := range []int64{-32768, -32767, -2, -1, 0, 1, 2, 5, 32766, 32767} {
		for _, pulses := range []int64{least, -10, -1, 0} {
			for _, circ := range []sp{of(1000, 1010), of(0, 0), of(least, most), of(most, most), of(1010, 1000)} {
				wantTacho(t, d, circ, pulses, sp{}, api.ErrRange)
			}
		}
		for _, circ := range []sp{of(1001, 1000), of(1, 0), of(0, -1), of(most, least), of(most, most-1), of(least+1, least)} {
			for _, pulses := range []int64{0, 1, 10, 1024, most} {
				wantTacho(t, d, circ, pulses, sp{}, api.ErrRange)
			}
		}
		if _, err := sense.Tacho(d, of(1000, 1010), 10); err != api.OK {
			t.Errorf("%d pulses have the error %d", d, err)
		}
	}
}

// P15.1: an end that does not fit, of one pulse less, of one more, or of both.
func TestTachoOver(t *testing.T) {
	for _, x := range []struct {
		d      int64
		circ   sp
		pulses int64
	}{
		{2, of(0, most), 1}, {3, of(0, most), 1}, {1, of(0, most), 1}, {-1, of(0, most), 1}, {-2, of(0, most), 1}, {-3, of(0, most), 1},
		{2, of(least, 0), 1}, {1, of(least, 0), 1}, {0, of(least, 0), 1}, {0, of(least, least), 1}, {-1, of(least, 0), 1}, {-2, of(least, 0), 1},
		{32767, of(1, 1<<48), 1}, {-32768, of(1, 1<<48), 1}, {32767, of(least, most), 32767}, {-32768, of(least, most), 32768}, {5, of(1000, most), 5}, {-5, of(1000, most), 5},
	} {
		wantTacho(t, x.d, x.circ, x.pulses, sp{}, api.ErrOver)
	}
	// Just so far they fit.
	wantTacho(t, 32767, of(1, 1<<48-1), 1, of(32766, 1<<63-1<<15), api.OK)
	wantTacho(t, 32767, of(most, most), 32768, of(9222809086901354495, most), api.OK)
	wantTacho(t, -32768, of(most, most), 32769, of(-most, -9222809104080699406), api.OK)
	wantTacho(t, 1, of(0, 1<<62), 1, sp{}, api.ErrOver)
	wantTacho(t, 1, of(0, 1<<62-1), 1, of(0, 1<<63-2), api.OK)
	wantTacho(t, -1, of(0, 1<<62), 1, of(least, 0), api.OK)
	wantTacho(t, -1, of(0, 1<<62+1), 1, sp{}, api.ErrOver)
	wantTacho(t, 5, of(1000, most), 6, of(666, most), api.OK)
}

// expectedTacho is Tacho's answer by the chapters 4 and 15, reckoned with numbers of any size.
func expectedTacho(d int64, circ sp, pulses int64) (sp, api.Errno) {
	if d < -32768 || d > 32767 || circ.Lo > circ.Hi || pulses < 1 {
		return sp{}, api.ErrRange
	}
	var lo, hi *big.Int
	for _, k := range []int64{d - 1, d + 1} {
		for _, x := range []int64{circ.Lo, circ.Hi} {
			// Div of a big number rounds down for a positive divisor.
			product := new(big.Int).Mul(big.NewInt(k), big.NewInt(x))
			down := new(big.Int).Div(product, big.NewInt(pulses))
			up := new(big.Int).Neg(new(big.Int).Div(product.Neg(product), big.NewInt(pulses)))
			if lo == nil || down.Cmp(lo) < 0 {
				lo = down
			}
			if hi == nil || up.Cmp(hi) > 0 {
				hi = up
			}
		}
	}
	if !lo.IsInt64() || !hi.IsInt64() {
		return sp{}, api.ErrOver
	}
	return of(lo.Int64(), hi.Int64()), api.OK
}

// P15.1: wheels of trains, each number of pulses.
func TestTachoPulses(t *testing.T) {
	for _, w := range []struct {
		circ   sp
		pulses int64
	}{{of(2900000, 3000000), 100}, {of(1<<17, 1<<17+1<<13), 1024}, {of(8000001, 1<<23), 1}, {of(1<<23, 1<<23), 7}} {
		for d := int64(-32770); d <= 32770; d++ {
			want, err := expectedTacho(d, w.circ, w.pulses)
			wantTacho(t, d, w.circ, w.pulses, want, err)
		}
	}
}

// P15.1: scattered numbers against the chapter.
func TestTachoScattered(t *testing.T) {
	row := scatter(151)
	seen := map[api.Errno]int{}
	for i := range 400000 {
		d, circ, pulses := row.from(-32770, 32769), of(row.any64(), row.any64()), row.any64()
		if i%2 == 0 {
			circ, pulses = of(min(circ.Lo, circ.Hi), max(circ.Lo, circ.Hi)), max(pulses, 1)
		}
		if i%4 == 0 {
			circ, pulses = row.within(1, 1<<23), row.from(1, 1024)
		}
		if i%5 == 0 {
			d = row.any64()
		}
		if i%7 == 0 {
			d = int64(row.to(7)) - 3
		}
		want, err := expectedTacho(d, circ, pulses)
		wantTacho(t, d, circ, pulses, want, err)
		seen[err]++
	}
	for _, e := range []api.Errno{api.OK, api.ErrRange, api.ErrOver} {
		if seen[e] < 5000 {
			t.Errorf("%d have the error %d", seen[e], e)
		}
	}
}

// P15.1: each speed at which a tachometer is correct is in what it says, whichever circumference of the span the wheel has.
func TestTachoHasEachSpeed(t *testing.T) {
	const few = 9
	for c := int64(1); c <= few; c++ {
		for pulses := int64(1); pulses <= few; pulses++ {
			for v := int64(-2 * few); v <= 2*few; v++ {
				for d := int64(-2*few*few - 1); d <= 2*few*few+1; d++ {
					if off := d*c - v*pulses; off <= -c || off >= c {
						continue
					}
					for _, circ := range []sp{of(c, c), of(1, c), of(c, few), of(c-1, c+1)} {
						if got, err := sense.Tacho(d, circ, pulses); err != api.OK || !got.Has(v) {
							t.Fatalf("Tacho(%d, %v, %d) = %v, %d; the speed is %d", d, circ, pulses, got, err, v)
						}
					}
				}
			}
		}
	}
}

// P15.1: a wheel that turns on and back says the train's speed in each cycle, wherever it begins.
func TestTachoOfTurningWheel(t *testing.T) {
	row := scatter(153)
	for range 300 {
		c := row.config()
		circ := row.from(c.CircLo, c.CircHi)
		turned := row.from(0, circ-1)
		for range 100 {
			v := row.from(-c.MaxSpeed, c.MaxSpeed)
			count := floor(turned, circ)
			turned += c.Pulses * v
			d := floor(turned, circ) - count
			if got, err := sense.Tacho(d, c.Circ(), c.Pulses); err != api.OK || !got.Has(v) {
				t.Fatalf("Tacho(%d, %v, %d) = %v, %d; the speed is %d", d, c.Circ(), c.Pulses, got, err, v)
			}
		}
	}
}

// floor is a / b rounded down, for a b above 0.
func floor(a, b int64) int64 {
	q := a / b
	if a%b < 0 {
		q--
	}
	return q
}

// radar is train with another radar.
func radar(t *testing.T, base, part int64) conf.Config {
	t.Helper()
	return with(t, func(c *conf.Config) { c.RadBase, c.RadPart, c.StillSpeed = base, part, 1<<24 })
}

// wantRadar is Radar's answer written out.
func wantRadar(t *testing.T, c conf.Config, r int64, want sp) {
	t.Helper()
	if got := sense.Radar(c, r); got != want {
		t.Errorf("Radar(%d) with %d and %d = %v; want %v", r, c.RadBase, c.RadPart, got, want)
	}
}

// P15.2: speeds written out.
func TestRadarWrittenOut(t *testing.T) {
	for _, x := range []struct {
		base, part, r int64
		want          sp
	}{
		{10, 1 << 16, -160, of(-180, -140)}, {10, 1 << 16, 160, of(140, 180)}, {10, 1 << 16, 0, of(-10, 10)}, {10, 1 << 16, 15, of(5, 25)}, {10, 1 << 16, 16, of(5, 27)}, {10, 1 << 16, -16, of(-27, -5)},
		{0, 0, 0, of(0, 0)}, {0, 0, 77, of(77, 77)}, {0, 0, -77, of(-77, -77)}, {7, 0, 3, of(-4, 10)}, {7, 0, -3, of(-10, 4)}, {500, 4000, -262144, of(-263644, -260644)},
		{0, 0, 1<<31 - 1, of(1<<31-1, 1<<31-1)}, {0, 0, -1 << 31, of(-1<<31, -1<<31)}, {0, 1, 1 << 20, of(1<<20-1, 1<<20+1)}, {0, 1, 1<<20 - 1, of(1<<20-1, 1<<20-1)},
		{1 << 20, 1 << 16, 1<<31 - 1, of(2147483647-135266303, 2147483647+135266303)}, {1 << 20, 1 << 16, -1 << 31, of(-2147483648-135266304, -2147483648+135266304)}, {1 << 20, 0, 5, of(5-1<<20, 5+1<<20)},
	} {
		wantRadar(t, radar(t, x.base, x.part), x.r, x.want)
	}
}

// P15.2: scattered reports against the chapters 13 and 15, and no other number of the configuration counts.
func TestRadarScattered(t *testing.T) {
	row := scatter(154)
	for i := range 200000 {
		c := row.config()
		r := row.from(-1<<31, 1<<31-1)
		if i%3 == 0 {
			r = int64(row.to(4000)) - 2000
		}
		size := max(r, -r)
		off := c.RadBase + size*c.RadPart/(1<<20)
		wantRadar(t, c, r, of(r-off, r+off))
		wantRadar(t, radar(t, c.RadBase, c.RadPart), r, of(r-off, r+off))
	}
}

// P15.2: a radar is correct at the speeds that it says, and at no others.
func TestRadarHasEachSpeed(t *testing.T) {
	for _, c := range []conf.Config{radar(t, 3, 1<<16), radar(t, 0, 1<<15), radar(t, 2, 0), radar(t, 0, 0)} {
		for r := int64(-60); r <= 60; r++ {
			got := sense.Radar(c, r)
			for v := int64(-80); v <= 80; v++ {
				if correct := max(r-v, v-r) <= c.Error(r); got.Has(v) != correct {
					t.Errorf("Radar(%d) with %d and %d = %v; at %d it is correct: %t", r, c.RadBase, c.RadPart, got, v, correct)
				}
			}
		}
	}
}

// accelerometer is train with another accelerometer.
func accelerometer(t *testing.T, off int64) conf.Config {
	t.Helper()
	return with(t, func(c *conf.Config) { c.AccErr = off })
}

// wantAccel is Accel's answer written out.
func wantAccel(t *testing.T, c conf.Config, m int64, grades, want sp) {
	t.Helper()
	if got := sense.Accel(c, m, grades); got != want {
		t.Errorf("Accel(%d, %v) with %d = %v; want %v", m, grades, c.AccErr, got, want)
	}
}

// P15.2: accelerations written out.
func TestAccelWrittenOut(t *testing.T) {
	const top = 1 << 20
	for _, x := range []struct {
		off, m int64
		grades sp
		want   sp
	}{
		{300, 100, of(5, 5), of(-205, 395)}, {300, 100, of(-3, 5), of(-205, 403)}, {300, -100, of(-3, 5), of(-405, 203)}, {300, 0, of(0, 0), of(-300, 300)}, {300, 7, of(-9, -4), of(-289, 316)}, {300, 7, of(4, 9), of(-302, 303)},
		{0, 0, of(0, 0), of(0, 0)}, {0, 7, of(2, 2), of(5, 5)}, {0, 7, of(-2, -2), of(9, 9)}, {0, 7, of(-2, 3), of(4, 9)}, {1, 0, of(0, 1), of(-2, 1)}, {1, 0, of(-1, 0), of(-1, 2)},
		{0, 0, of(-top, top), of(-top, top)}, {top, 0, of(-top, top), of(-2*top, 2*top)}, {top, 0, of(top, top), of(-2*top, 0)}, {top, 0, of(-top, -top), of(0, 2*top)},
		{top, 1<<31 - 1, of(-top, top), of(1<<31-1-2*top, 1<<31-1+2*top)}, {top, -1 << 31, of(-top, top), of(-1<<31-2*top, -1<<31+2*top)}, {0, 1<<31 - 1, of(0, 0), of(1<<31-1, 1<<31-1)}, {0, -1 << 31, of(0, 0), of(-1<<31, -1<<31)},
	} {
		wantAccel(t, accelerometer(t, x.off), x.m, x.grades, x.want)
	}
}

// P15.2: scattered reports against the chapter, and no other number of the configuration counts.
func TestAccelScattered(t *testing.T) {
	row := scatter(155)
	for range 200000 {
		c := row.config()
		m, grades := row.from(-1<<31, 1<<31-1), row.within(-1<<20, 1<<20)
		want := of(m-grades.Hi-c.AccErr, m-grades.Lo+c.AccErr)
		wantAccel(t, c, m, grades, want)
		wantAccel(t, accelerometer(t, c.AccErr), m, grades, want)
	}
}

// P15.2: an accelerometer is correct, on one of the grades, at the accelerations that it says, and at no others.
func TestAccelHasEachAcceleration(t *testing.T) {
	const few = 5
	for off := range int64(3) {
		c := accelerometer(t, off)
		for m := int64(-few); m <= few; m++ {
			for lo := int64(-few); lo <= few; lo++ {
				for hi := lo; hi <= few; hi++ {
					got := sense.Accel(c, m, of(lo, hi))
					for a := int64(-4 * few); a <= 4*few; a++ {
						correct := false
						for g := lo; g <= hi; g++ {
							correct = correct || max(m-a-g, a+g-m) <= off
						}
						if got.Has(a) != correct {
							t.Fatalf("Accel(%d, %d to %d) with %d = %v; at %d it is correct: %t", m, lo, hi, off, got, a, correct)
						}
					}
				}
			}
		}
	}
}

// wantFrom is From's answer written out.
func wantFrom(t *testing.T, speed, accel, want sp) {
	t.Helper()
	if got := sense.From(speed, accel); got != want {
		t.Errorf("From(%v, %v) = %v; want %v", speed, accel, got, want)
	}
}

// P15.3: speeds written out, and scattered ones.
func TestFrom(t *testing.T) {
	const top = 1 << 40
	wantFrom(t, of(0, 0), of(0, 0), of(0, 0))
	wantFrom(t, of(10, 20), of(-3, 5), of(7, 25))
	wantFrom(t, of(-20, -10), of(-3, 5), of(-23, -5))
	wantFrom(t, of(-3, 5), of(10, 10), of(7, 15))
	wantFrom(t, of(10, 10), of(-10, -10), of(0, 0))
	wantFrom(t, of(-top, top), of(-top, top), of(-2*top, 2*top))
	wantFrom(t, of(top, top), of(top, top), of(2*top, 2*top))
	wantFrom(t, of(-top, -top), of(-top, -top), of(-2*top, -2*top))
	wantFrom(t, of(-top, top), of(0, 0), of(-top, top))
	wantFrom(t, of(0, 0), of(-top, top), of(-top, top))
	row := scatter(156)
	for range 100000 {
		speed, accel := row.within(-top, top), row.within(-top, top)
		wantFrom(t, speed, accel, of(speed.Lo+accel.Lo, speed.Hi+accel.Hi))
	}
}

// P15.3: it has all sums, and no other number.
func TestFromHasEachSum(t *testing.T) {
	small := smallSpans(4)
	for _, speed := range small {
		for _, accel := range small {
			got := sense.From(speed, accel)
			for x := int64(-10); x <= 10; x++ {
				sum := false
				for v := speed.Lo; v <= speed.Hi; v++ {
					sum = sum || accel.Has(x-v)
				}
				if got.Has(x) != sum {
					t.Fatalf("From(%v, %v) = %v; %d is a sum: %t", speed, accel, got, x, sum)
				}
			}
		}
	}
}

// smallSpans are all valid spans from -most to most.
func smallSpans(most int64) []sp {
	var l []sp
	for lo := -most; lo <= most; lo++ {
		for hi := lo; hi <= most; hi++ {
			l = append(l, of(lo, hi))
		}
	}
	return l
}

// moving is train with other greatest numbers.
func moving(t *testing.T, speed, accel int64) conf.Config {
	t.Helper()
	return with(t, func(c *conf.Config) { c.Pulses, c.StillSpeed, c.MaxSpeed, c.MaxAccel = 1, 1<<24, speed, accel })
}

// wantPrior is Prior's answer written out.
func wantPrior(t *testing.T, c conf.Config, speed, want sp) {
	t.Helper()
	if got := sense.Prior(c, speed); got != want {
		t.Errorf("Prior(%v) with %d and %d = %v; want %v", speed, c.MaxSpeed, c.MaxAccel, got, want)
	}
}

// P15.3: speeds written out.
func TestPriorWrittenOut(t *testing.T) {
	const fast, sudden = 1 << 24, 1 << 20
	for _, x := range []struct {
		most, accel int64
		speed, want sp
	}{
		{1000, 10, of(0, 0), of(-10, 10)}, {1000, 10, of(20, 30), of(10, 40)}, {1000, 10, of(-30, -20), of(-40, -10)}, {1000, 10, of(-5, 7), of(-15, 17)},
		{1000, 10, of(985, 989), of(975, 999)}, {1000, 10, of(985, 990), of(975, 1000)}, {1000, 10, of(985, 991), of(975, 1000)}, {1000, 10, of(1000, 1000), of(990, 1000)},
		{1000, 10, of(-989, -985), of(-999, -975)}, {1000, 10, of(-990, -985), of(-1000, -975)}, {1000, 10, of(-991, -985), of(-1000, -975)}, {1000, 10, of(-1000, -1000), of(-1000, -990)},
		{1000, 10, of(-1000, 1000), of(-1000, 1000)}, {1000, 10, of(-995, 995), of(-1000, 1000)},
		{10, 1000, of(0, 0), of(-10, 10)}, {10, 1000, of(10, 10), of(-10, 10)}, {10, 1000, of(-10, -9), of(-10, 10)}, {10, 19, of(10, 10), of(-9, 10)}, {10, 20, of(10, 10), of(-10, 10)}, {10, 21, of(-10, -10), of(-10, 10)},
		{1, 1, of(0, 0), of(-1, 1)}, {1, 1, of(1, 1), of(0, 1)}, {1, 1, of(-1, -1), of(-1, 0)}, {2, 1, of(-1, 1), of(-2, 2)},
		{fast, sudden, of(-fast, fast), of(-fast, fast)}, {fast, sudden, of(fast, fast), of(fast-sudden, fast)}, {fast, sudden, of(-fast, -fast), of(-fast, sudden-fast)}, {fast, sudden, of(0, 0), of(-sudden, sudden)}, {fast, 1, of(fast-1, fast-1), of(fast-2, fast)},
	} {
		wantPrior(t, moving(t, x.most, x.accel), x.speed, x.want)
	}
}

// P15.3: it has each speed whose distance from the span is at most MaxAccel, and no other number.
func TestPriorHasEachSpeed(t *testing.T) {
	for fast := int64(1); fast <= 6; fast++ {
		for accel := int64(1); accel <= 14; accel++ {
			c := moving(t, fast, accel)
			for _, speed := range smallSpans(fast) {
				got := sense.Prior(c, speed)
				for x := int64(-25); x <= 25; x++ {
					near := false
					for v := speed.Lo; v <= speed.Hi; v++ {
						near = near || max(x-v, v-x) <= accel
					}
					if got.Has(x) != (near && x >= -fast && x <= fast) {
						t.Fatalf("Prior(%v) with %d and %d = %v; %d is near: %t", speed, fast, accel, got, x, near)
					}
				}
			}
		}
	}
}

// P15.3: scattered speeds against the chapter, and no other number of the configuration counts.
func TestPriorScattered(t *testing.T) {
	row := scatter(157)
	for range 200000 {
		c := row.config()
		speed := row.within(-c.MaxSpeed, c.MaxSpeed)
		want := of(max(speed.Lo-c.MaxAccel, -c.MaxSpeed), min(speed.Hi+c.MaxAccel, c.MaxSpeed))
		wantPrior(t, c, speed, want)
		wantPrior(t, moving(t, c.MaxSpeed, c.MaxAccel), speed, want)
	}
}

// P15.2 and P15.3: of a train that moves, each cycle's speed is in what its correct sensors say, and in what the previous one allows.
func TestMovingTrain(t *testing.T) {
	row := scatter(158)
	for range 500 {
		c := row.config()
		v := row.from(-c.MaxSpeed, c.MaxSpeed)
		for range 60 {
			was := of(max(v-row.from(0, 1000), -c.MaxSpeed), min(v+row.from(0, 1000), c.MaxSpeed))
			next := min(max(v+row.from(-c.MaxAccel, c.MaxAccel), -c.MaxSpeed), c.MaxSpeed)
			grades := row.within(-1<<20, 1<<20)
			m := next - v + row.from(grades.Lo, grades.Hi) + row.from(-c.AccErr, c.AccErr)
			if got := sense.From(was, sense.Accel(c, m, grades)); !got.Has(next) {
				t.Fatalf("from %v, with %d on %v, to %v; the speed is %d", was, m, grades, got, next)
			}
			if got := sense.Prior(c, was); !got.Has(next) {
				t.Fatalf("Prior(%v) = %v; the speed is %d", was, got, next)
			}
			if r := next + row.from(-c.RadBase, c.RadBase); !sense.Radar(c, r).Has(next) {
				t.Fatalf("Radar(%d) = %v; the speed is %d", r, sense.Radar(c, r), next)
			}
			v = next
		}
	}
}

// P1: any numbers, spans and configurations end, without a panic, and the same ones have the same answer.
func TestAnyNumbers(t *testing.T) {
	row := scatter(159)
	for i := range 300000 {
		c := row.wild()
		if i == 0 {
			c = conf.Config{}
		}
		if i%3 == 1 {
			c = train()
		}
		s, o, x := of(row.any64(), row.any64()), of(row.any64(), row.any64()), row.any64()
		want, err := expectedTacho(x, s, c.Pulses)
		wantTacho(t, x, s, c.Pulses, want, err)
		wantRadar(t, c, x, sense.Radar(c, x))
		wantAccel(t, c, x, s, sense.Accel(c, x, s))
		wantFrom(t, s, o, sense.From(s, o))
		wantPrior(t, c, s, sense.Prior(c, s))
	}
}
