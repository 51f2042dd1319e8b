package conf_test

import (
	"math"
	"math/big"
	"reflect"
	"slices"
	"testing"

	"odograph/api"
	"odograph/conf"
	"odograph/grade"
	"odograph/span"
	"odograph/track"
)

const (
	least = math.MinInt64
	most  = math.MaxInt64
)

// scatter is a row of numbers, always the same one.
type scatter uint64

func (s *scatter) next() uint64 {
	*s = *s*6364136223846793005 + 1442695040888963407
	return uint64(*s ^ *s>>31)
}

// to is a number of the row from 0 to n - 1.
func (s *scatter) to(n int) int { return int(s.next() >> 8 % uint64(n)) }

// from is a number of the row from lo to hi, an end rather often.
func (s *scatter) from(lo, hi int64) int64 {
	switch s.to(6) {
	case 0:
		return lo
	case 1:
		return hi
	case 2:
		return lo + int64(s.next()%uint64(hi-lo+1))>>s.to(20)
	}
	return lo + int64(s.next()%uint64(hi-lo+1))
}

// any64 is a number of the row that is near an edge rather often.
func (s *scatter) any64() int64 {
	edges := []int64{least, -1 << 31, -1 << 16, 0, 1, 2, 1000, 1024, 32000, 1 << 16, 1 << 17, 1 << 20, 1 << 23, 1 << 24, 1 << 30, 1 << 32, 1 << 59, most}
	if s.to(3) > 0 {
		return edges[s.to(len(edges))] + int64(s.to(3)) - 1
	}
	return int64(s.next()) >> s.to(64)
}

// train is a valid configuration in which no number is at an edge.
func train() conf.Config {
	return conf.Config{
		Pulses: 100, CircLo: 2900000, CircHi: 3000000, RadBase: 500, RadPart: 4000, AccErr: 300, MaxSpeed: 5000000, MaxAccel: 200000,
		Antenna: 400000, Still: 5, StillSpeed: 40000, Roll: 2000000, Timeout: 20, Brake: 50000,
	}
}

// with is train with a change.
func with(change func(c *conf.Config)) conf.Config {
	c := train()
	change(&c)
	return c
}

// numbers are all fields of c.
func numbers(c *conf.Config) []reflect.Value {
	var all []reflect.Value
	v := reflect.ValueOf(c).Elem()
	for i := range v.NumField() {
		all = append(all, v.Field(i))
	}
	return all
}

// valid is a valid configuration of the row.
func valid(row *scatter) conf.Config {
	for {
		c := conf.Config{Pulses: row.from(1, 1024), CircLo: row.from(1<<17, 1<<(18+row.to(6)))}
		c.CircHi = row.from(c.CircLo, min(c.CircLo+c.CircLo/16, 1<<23))
		c.RadBase, c.RadPart, c.AccErr = row.from(0, 1<<20), row.from(0, 1<<16), row.from(0, 1<<20)
		c.MaxSpeed, c.MaxAccel = row.from(1, min(1<<24, 32000*c.CircLo/c.Pulses)), row.from(1, 1<<20)
		c.Antenna, c.Still, c.Timeout = row.from(0, 1<<20), int(row.from(1, 1000)), int(row.from(1, 1000))
		c.StillSpeed = row.from(max((c.CircHi+c.Pulses-1)/c.Pulses, 3*c.RadBase), 1<<24)
		c.Roll, c.Brake = row.from(0, 1<<30), row.from(1, 1<<20)
		if brokenRule(c) == 0 {
			return c
		}
	}
}

// brokenRule is the number of the first rule of the chapter that does not hold, reckoned with numbers of any size; 0 if all hold.
func brokenRule(c conf.Config) int {
	n := big.NewInt
	in := func(x, lo, hi int64) bool { return x >= lo && x <= hi }
	times := func(a, b int64) *big.Int { return new(big.Int).Mul(n(a), n(b)) }
	unsure := new(big.Int).Sub(n(c.CircHi), n(c.CircLo))
	for i, holds := range []bool{
		in(c.Pulses, 1, 1024),
		in(c.CircLo, 131072, 8388608) && in(c.CircHi, c.CircLo, 8388608),
		unsure.Mul(unsure, n(16)).Cmp(n(c.CircLo)) <= 0,
		in(c.RadBase, 0, 1048576) && in(c.RadPart, 0, 65536),
		in(c.AccErr, 0, 1048576),
		in(c.MaxSpeed, 1, 16777216) && in(c.MaxAccel, 1, 1048576),
		times(c.MaxSpeed, c.Pulses).Cmp(times(32000, c.CircLo)) <= 0,
		in(c.Antenna, 0, 1048576),
		in(int64(c.Still), 1, 1000) && in(int64(c.Timeout), 1, 1000),
		// StillSpeed is at least a quotient, rounded up, if as many times StillSpeed is at least what is divided.
		times(c.StillSpeed, c.Pulses).Cmp(n(c.CircHi)) >= 0 && n(c.StillSpeed).Cmp(times(3, c.RadBase)) >= 0 && c.StillSpeed <= 16777216,
		in(c.Roll, 0, 1073741824),
		in(c.Brake, 1, 1048576),
	} {
		if !holds {
			return i + 1
		}
	}
	return 0
}

// wantRule is Check's answer written out: the number of a rule, or 0.
func wantRule(t *testing.T, c conf.Config, rule int) {
	t.Helper()
	want := api.OK
	if rule > 0 {
		want = api.ErrConf
	}
	if got, i := c.Check(); got != want || i != rule {
		t.Errorf("Check of %+v = %d, %d; want %d, %d", c, got, i, want, rule)
	}
}

// wantFits is Fits' answer written out.
func wantFits(t *testing.T, c conf.Config, tr track.Track, want api.Errno, index int) {
	t.Helper()
	if got, i := c.Fits(tr); got != want || i != index {
		t.Errorf("Fits of %+v and %+v = %d, %d; want %d, %d", c, tr, got, i, want, index)
	}
}

// P13.1: configurations written out.
func TestCheckWrittenOut(t *testing.T) {
	wantRule(t, train(), 0)
	wantRule(t, conf.Config{}, 1)
	wantRule(t, conf.Config{Pulses: 1, CircLo: 1 << 17, CircHi: 1 << 17, MaxSpeed: 1, MaxAccel: 1, Still: 1, StillSpeed: 1 << 17, Timeout: 1, Brake: 1}, 0)
	wantRule(t, conf.Config{Pulses: 1024, CircLo: 1 << 23, CircHi: 1 << 23, RadBase: 1 << 20, RadPart: 1 << 16, AccErr: 1 << 20, MaxSpeed: 1 << 24, MaxAccel: 1 << 20,
		Antenna: 1 << 20, Still: 1000, StillSpeed: 1 << 24, Roll: 1 << 30, Timeout: 1000, Brake: 1 << 20}, 0)
	for _, v := range []int64{least, -1, most} {
		var c conf.Config
		for _, f := range numbers(&c) {
			f.SetInt(v)
		}
		wantRule(t, c, 1)
	}
}

// P13.1: each number of a rule in its range, at its ends, and beyond it.
func TestCheckNumbers(t *testing.T) {
	for _, r := range []struct {
		rule    int
		set     func(c *conf.Config, x int64)
		in, out []int64
	}{
		{1, func(c *conf.Config, x int64) { c.Pulses, c.MaxSpeed, c.StillSpeed = x, 1, 1<<24 }, []int64{1, 2, 3, 500, 1023, 1024}, []int64{least, -100, -1, 0, 1025, 1026, 1 << 32, most}},
		{2, func(c *conf.Config, x int64) { c.CircLo, c.CircHi, c.MaxSpeed, c.StillSpeed = x, x, 1, 1<<24 }, []int64{1 << 17, 1<<17 + 1, 1 << 20, 1<<23 - 1, 1 << 23}, []int64{least, -1 << 20, -1, 0, 1, 1<<17 - 1, 1<<23 + 1, 1 << 24, 1 << 32, most}},
		{2, func(c *conf.Config, x int64) { c.CircHi = x }, []int64{2900000, 2900001, 3000000, 3081250}, []int64{least, -1, 0, 1 << 17, 2899999, 1<<23 + 1, 1 << 32, most}},
		{2, func(c *conf.Config, x int64) { c.CircLo, c.CircHi, c.StillSpeed = 8000000, x, 1<<24 }, []int64{8000000, 1<<23 - 1, 1 << 23}, []int64{least, 0, 7999999, 1<<23 + 1, 8500000, 1 << 24, most}},
		{3, func(c *conf.Config, x int64) { c.CircHi = x }, []int64{3081249, 3081250}, []int64{3081251, 3081252, 4000000, 1 << 23}},
		{3, func(c *conf.Config, x int64) { c.CircLo, c.CircHi, c.MaxSpeed = 1<<17, x, 1 }, []int64{1 << 17, 1<<17 + 1, 1<<17 + 1<<13 - 1, 1<<17 + 1<<13}, []int64{1<<17 + 1<<13 + 1, 1<<17 + 1<<13 + 2, 1 << 18, 1 << 23}},
		{3, func(c *conf.Config, x int64) { c.CircLo, c.CircHi, c.MaxSpeed = 1<<17+15, x, 1 }, []int64{1<<17 + 15 + 1<<13}, []int64{1<<17 + 16 + 1<<13, 1<<17 + 17 + 1<<13}},
		{3, func(c *conf.Config, x int64) { c.CircLo, c.CircHi = x, 3000000 }, []int64{3000000, 2823530, 2823531}, []int64{2823529, 2823528, 2000000}},
		{4, func(c *conf.Config, x int64) { c.RadBase, c.StillSpeed = x, 1<<24 }, []int64{0, 1, 2, 1<<20 - 1, 1 << 20}, []int64{least, -1, 1<<20 + 1, 1 << 32, 1<<62 + 1, most}},
		{4, func(c *conf.Config, x int64) { c.RadPart = x }, []int64{0, 1, 2, 1<<16 - 1, 1 << 16}, []int64{least, -1, 1<<16 + 1, 1 << 20, 1 << 32, most}},
		{5, func(c *conf.Config, x int64) { c.AccErr = x }, []int64{0, 1, 2, 1<<20 - 1, 1 << 20}, []int64{least, -1, 1<<20 + 1, 1 << 32, most}},
		{6, func(c *conf.Config, x int64) { c.Pulses, c.StillSpeed, c.MaxSpeed = 1, 1<<24, x }, []int64{1, 2, 1<<24 - 1, 1 << 24}, []int64{least, -1, 0, 1<<24 + 1, 1 << 32, most}},
		{6, func(c *conf.Config, x int64) { c.MaxAccel = x }, []int64{1, 2, 1<<20 - 1, 1 << 20}, []int64{least, -1, 0, 1<<20 + 1, 1 << 24, 1 << 32, most}},
		{8, func(c *conf.Config, x int64) { c.Antenna = x }, []int64{0, 1, 2, 1<<20 - 1, 1 << 20}, []int64{least, -1, 1<<20 + 1, 1 << 32, most}},
		{9, func(c *conf.Config, x int64) { c.Still = int(x) }, []int64{1, 2, 999, 1000}, []int64{least, -1, 0, 1001, 1002, 1 << 20, most}},
		{9, func(c *conf.Config, x int64) { c.Timeout = int(x) }, []int64{1, 2, 999, 1000}, []int64{least, -1, 0, 1001, 1002, 1 << 20, most}},
		{10, func(c *conf.Config, x int64) { c.StillSpeed = x }, []int64{30000, 30001, 5000000, 5000001, 1<<24 - 1, 1 << 24}, []int64{least, -1, 0, 1500, 29999, 1<<24 + 1, 1 << 32, most}},
		{11, func(c *conf.Config, x int64) { c.Roll = x }, []int64{0, 1, 2, 1<<30 - 1, 1 << 30}, []int64{least, -1, 1<<30 + 1, 1 << 32, most}},
		{12, func(c *conf.Config, x int64) { c.Brake = x }, []int64{1, 2, 1<<20 - 1, 1 << 20}, []int64{least, -1, 0, 1<<20 + 1, 1 << 32, most}},
	} {
		for _, x := range r.in {
			wantRule(t, with(func(c *conf.Config) { r.set(c, x) }), 0)
		}
		for _, x := range r.out {
			wantRule(t, with(func(c *conf.Config) { r.set(c, x) }), r.rule)
		}
	}
}

// P13.1, rule 7: MaxSpeed times Pulses is at most 32000 times CircLo, at the very numbers and one beyond.
func TestCheckPulsesInCycle(t *testing.T) {
	for _, x := range []struct{ pulses, circ, speed int64 }{
		{1024, 1 << 17, 4096000}, {1000, 1 << 17, 4194304}, {1000, 200000, 6400000}, {999, 200000, 6406406}, {1024, 500000, 15625000}, {320, 140000, 14000000}, {251, 1 << 17, 16710374}, {1024, 536870, 16777187},
	} {
		c := with(func(c *conf.Config) {
			c.Pulses, c.CircLo, c.CircHi, c.MaxSpeed = x.pulses, x.circ, x.circ+x.circ/16, x.speed
		})
		wantRule(t, c, 0)
		c.MaxSpeed++
		wantRule(t, c, 7)
		c.MaxSpeed = 1 << 24
		wantRule(t, c, 7)
		c.MaxSpeed = x.speed / 2
		wantRule(t, c, 0)
	}
	// It is CircLo, not CircHi.
	wantRule(t, with(func(c *conf.Config) { c.Pulses, c.CircLo, c.CircHi, c.MaxSpeed = 1024, 1<<17, 1<<17+1<<13, 4096001 }), 7)
	// At 32000 times the least circumference, one pulse more is too many.
	wantRule(t, with(func(c *conf.Config) {
		c.Pulses, c.CircLo, c.CircHi, c.MaxSpeed, c.StillSpeed = 250, 1<<17, 1<<17, 1<<24, 1<<24
	}), 0)
	wantRule(t, with(func(c *conf.Config) {
		c.Pulses, c.CircLo, c.CircHi, c.MaxSpeed, c.StillSpeed = 251, 1<<17, 1<<17, 1<<24, 1<<24
	}), 7)
}

// P13.1, rule 10: StillSpeed is at least CircHi / Pulses, rounded up, and at least 3 times RadBase.
func TestCheckStillSpeed(t *testing.T) {
	for _, x := range []struct{ pulses, lo, hi, base, still int64 }{
		{100, 2900000, 3000000, 0, 30000}, {100, 2900000, 3000001, 0, 30001}, {100, 2900000, 2999999, 0, 30000}, {100, 2900000, 2999901, 0, 30000}, {100, 2900000, 2999900, 0, 29999},
		{1, 2900000, 3000000, 0, 3000000}, {1, 1 << 23, 1 << 23, 0, 1 << 23}, {1024, 1 << 23, 1 << 23, 0, 8192}, {1024, 1 << 17, 1 << 17, 0, 128}, {1024, 1 << 17, 1<<17 + 1, 0, 129}, {1023, 1 << 17, 1 << 17, 0, 129},
		{100, 2900000, 3000000, 9999, 30000}, {100, 2900000, 3000000, 10000, 30000}, {100, 2900000, 3000000, 10001, 30003}, {100, 2900000, 2999999, 10000, 30000}, {100, 2900000, 3000001, 10000, 30001},
		{1024, 1 << 17, 1 << 17, 1 << 20, 3145728}, {1024, 1 << 17, 1 << 17, 1<<20 - 1, 3145725}, {1, 1 << 23, 1 << 23, 1 << 20, 1 << 23}, {1024, 1 << 17, 1 << 17, 43, 129}, {1024, 1 << 17, 1 << 17, 42, 128},
	} {
		c := with(func(c *conf.Config) {
			c.Pulses, c.CircLo, c.CircHi, c.RadBase, c.MaxSpeed, c.StillSpeed = x.pulses, x.lo, x.hi, x.base, 1, x.still
		})
		wantRule(t, c, 0)
		c.StillSpeed--
		wantRule(t, c, 10)
		c.StillSpeed = 1 << 24
		wantRule(t, c, 0)
		c.StillSpeed++
		wantRule(t, c, 10)
	}
}

// many is train with so many pulses that it might be too fast for them.
func many() conf.Config {
	return with(func(c *conf.Config) { c.Pulses, c.CircLo, c.CircHi, c.MaxSpeed = 1024, 1<<17, 1<<17+1<<13, 4000000 })
}

// breaks are changes of many, of which each breaks the rule with its index plus 1, and none before it.
func breaks() []func(c *conf.Config) {
	return []func(c *conf.Config){
		func(c *conf.Config) { c.Pulses = 0 },
		func(c *conf.Config) { c.CircLo = 1 << 16 },
		func(c *conf.Config) { c.CircHi = 1 << 23 },
		func(c *conf.Config) { c.RadBase = 1<<20 + 1 },
		func(c *conf.Config) { c.AccErr = -1 },
		func(c *conf.Config) { c.MaxAccel = 0 },
		func(c *conf.Config) { c.MaxSpeed = 1 << 24 },
		func(c *conf.Config) { c.Antenna = 1<<20 + 1 },
		func(c *conf.Config) { c.Timeout = 0 },
		func(c *conf.Config) { c.StillSpeed = 1 },
		func(c *conf.Config) { c.Roll = -1 },
		func(c *conf.Config) { c.Brake = 0 },
	}
}

// P13.1: of any of the rules that do not hold, the first one is told.
func TestCheckFirstRule(t *testing.T) {
	for mask := range 1 << 12 {
		c := many()
		want := 0
		for i, change := range breaks() {
			if mask>>i&1 == 0 {
				continue
			}
			change(&c)
			if want == 0 {
				want = i + 1
			}
		}
		wantRule(t, c, want)
	}
}

// P13.1: numbers whose sums and products go beyond 64 bits break the rule of their range, which comes first.
func TestCheckGreatNumbers(t *testing.T) {
	for _, x := range []struct {
		change func(c *conf.Config)
		rule   int
	}{
		{func(c *conf.Config) { c.CircLo, c.CircHi = least, most }, 2},
		{func(c *conf.Config) { c.CircLo, c.CircHi = most, least }, 2},
		{func(c *conf.Config) { c.CircHi = 2900000 + 1<<60 }, 2},
		{func(c *conf.Config) { c.CircHi = 2900000 + 1<<59 }, 2},
		{func(c *conf.Config) { c.CircLo, c.CircHi = 1<<60, 1<<60 }, 2},
		{func(c *conf.Config) { c.Pulses, c.MaxSpeed = 1<<32, 1<<32 }, 1},
		{func(c *conf.Config) { c.MaxSpeed = 1 << 62 }, 6},
		{func(c *conf.Config) { c.MaxSpeed = least }, 6},
		{func(c *conf.Config) { c.RadBase = 1 << 63 / 3 }, 4},
		{func(c *conf.Config) { c.RadBase = least }, 4},
		{func(c *conf.Config) { c.Pulses = least }, 1},
		{func(c *conf.Config) { c.Pulses, c.CircHi, c.StillSpeed = -1, least, least }, 1},
		{func(c *conf.Config) { c.Still = math.MinInt }, 9},
		{func(c *conf.Config) { c.Timeout = math.MaxInt }, 9},
		{func(c *conf.Config) { c.Still = 1<<32 + 5 }, 9},
		{func(c *conf.Config) { c.Timeout = 1<<16 + 5 }, 9},
	} {
		wantRule(t, with(x.change), x.rule)
	}
}

// P13.1: scattered configurations against the chapter, reckoned with numbers of any size.
func TestCheckScattered(t *testing.T) {
	row := scatter(131)
	seen := map[int]int{}
	for range 200000 {
		c := valid(&row)
		fields := numbers(&c)
		for range row.to(3) {
			f := fields[row.to(len(fields))]
			if row.to(2) == 0 {
				f.SetInt(row.any64())
			} else {
				f.SetInt(f.Int() + int64(row.to(5)) - 2)
			}
		}
		rule := brokenRule(c)
		wantRule(t, c, rule)
		seen[rule]++
	}
	for rule := range 13 {
		if seen[rule] < 300 {
			t.Errorf("%d configurations have the rule %d", seen[rule], rule)
		}
	}
}

// level is one piece.
func level() []grade.Piece { return []grade.Piece{{Grade: 3}} }

// on is a track of segments of these lengths, with these groups.
func on(lengths []int64, groups ...track.Group) track.Track {
	tr := track.Track{Groups: groups}
	for _, length := range lengths {
		tr.Segments = append(tr.Segments, track.Segment{Length: length, Pieces: level()})
	}
	return tr
}

// P13.1: tracks written out. The reach of train's groups is their Acc and 5400000.
func TestFitsWrittenOut(t *testing.T) {
	long := []int64{20000000}
	two := []int64{20000000, 10800000}
	for _, x := range []struct {
		tr    track.Track
		want  api.Errno
		index int
	}{
		{on(long), api.OK, 0},
		{on([]int64{1}), api.OK, 0},
		{on(long, track.Group{Id: 1, Offset: 5400000}), api.OK, 0},
		{on(long, track.Group{Id: 1, Offset: 5399999}), api.ErrForm, 0},
		{on(long, track.Group{Id: 1, Offset: 0}), api.ErrForm, 0},
		{on(long, track.Group{Id: 1, Offset: 14600000}), api.OK, 0},
		{on(long, track.Group{Id: 1, Offset: 14600001}), api.ErrForm, 0},
		{on(long, track.Group{Id: 1, Offset: 20000000}), api.ErrForm, 0},
		{on(long, track.Group{Id: 1, Offset: 5400007, Acc: 7}), api.OK, 0},
		{on(long, track.Group{Id: 1, Offset: 5400006, Acc: 7}), api.ErrForm, 0},
		{on(long, track.Group{Id: 1, Offset: 14599993, Acc: 7}), api.OK, 0},
		{on(long, track.Group{Id: 1, Offset: 14599994, Acc: 7}), api.ErrForm, 0},
		{on(long, track.Group{Id: 1, Offset: 5400000, Slack: 1 << 24}), api.OK, 0},
		{on(two, track.Group{Id: 1, Offset: 9000000}, track.Group{Id: 2, Segment: 1, Offset: 5400000}), api.OK, 0},
		{on(two, track.Group{Id: 1, Offset: 9000000}, track.Group{Id: 2, Segment: 1, Offset: 5400001}), api.ErrForm, 1},
		{on(two, track.Group{Id: 1, Offset: 9000000}, track.Group{Id: 2, Segment: 1, Offset: 5399999}), api.ErrForm, 1},
		{on(two, track.Group{Id: 1, Offset: 9000000}, track.Group{Id: 2, Segment: 1, Offset: 5400000, Acc: 1}), api.ErrForm, 1},
		{on(two, track.Group{Id: 1, Offset: 0}, track.Group{Id: 2, Segment: 1, Offset: 0}), api.ErrForm, 0},
		{on([]int64{10800000, 10799999}, track.Group{Id: 4, Segment: 0, Offset: 5400000}, track.Group{Id: 5, Segment: 1, Offset: 5400000}), api.ErrForm, 1},
		{on([]int64{1 << 40}, track.Group{Id: 65535, Offset: 1 << 39, Acc: 1 << 20}), api.OK, 0},
		{on([]int64{1 << 40}, track.Group{Id: 65535, Offset: 1 << 40}), api.ErrForm, 0},
		{track.Track{}, api.ErrTrack, 0},
		{on([]int64{5, 0}), api.ErrTrack, 0},
		{on(long, track.Group{Id: 0, Offset: 9000000}), api.ErrTrack, 0},
		{on(long, track.Group{Id: 1, Offset: 0}, track.Group{Id: 1}), api.ErrTrack, 0},
		{on(long, track.Group{Id: 1, Offset: 9000000}, track.Group{Id: 2, Segment: 1}), api.ErrTrack, 0},
		{on(long, track.Group{Id: 1, Offset: 9000000}, track.Group{Id: 2, Segment: -1}), api.ErrTrack, 0},
		{on(long, track.Group{Id: 1, Offset: 9000000, Acc: -1}), api.ErrTrack, 0},
		{on(long, track.Group{Id: 1, Offset: 20000001}), api.ErrTrack, 0},
	} {
		wantFits(t, train(), x.tr, x.want, x.index)
		// A configuration that is not valid comes first, whatever its rule is.
		for _, change := range breaks() {
			c := many()
			change(&c)
			wantFits(t, c, x.tr, api.ErrConf, 0)
		}
	}
}

// P13.1: Acc, Antenna and MaxSpeed each count, on both sides of the group.
func TestFitsReach(t *testing.T) {
	for _, x := range []struct{ acc, antenna, speed int64 }{{0, 0, 1}, {1, 0, 1}, {0, 1, 1}, {0, 0, 2}, {5, 70, 900}, {1 << 20, 1 << 20, 1 << 24}, {1 << 20, 0, 1}, {0, 1 << 20, 1}, {0, 0, 1 << 24}} {
		reach := x.acc + x.antenna + x.speed
		c := with(func(c *conf.Config) { c.Antenna, c.MaxSpeed, c.Pulses, c.StillSpeed = x.antenna, x.speed, 1, 1<<24 })
		wantRule(t, c, 0)
		for _, length := range []int64{1, reach, 2*reach - 1, 2 * reach, 2*reach + 1, 3 * reach, 1 << 40} {
			for _, offset := range []int64{0, 1, reach - 1, reach, reach + 1, length / 2, length - reach - 1, length - reach, length - reach + 1, length - 1, length} {
				if offset < 0 || offset > length {
					continue
				}
				want := api.ErrForm
				if offset >= reach && offset <= length-reach {
					want = api.OK
				}
				wantFits(t, c, on([]int64{length}, track.Group{Id: 9, Offset: offset, Acc: x.acc}), want, 0)
			}
		}
	}
}

// P13.1: of several groups the first one that does not fit is told.
func TestFitsFirstGroup(t *testing.T) {
	for _, n := range []int{1, 2, 3, 7, api.MaxGroups} {
		lengths := make([]int64, min(n, api.MaxSegments))
		for i := range lengths {
			lengths[i] = 20000000 + int64(i)
		}
		tr := on(lengths)
		for i := range n {
			tr.Groups = append(tr.Groups, track.Group{Id: 100*i + 1, Segment: i * 7 % len(lengths), Offset: 6000000 + int64(i), Acc: int64(i)})
		}
		wantFits(t, train(), tr, api.OK, 0)
		for i := range n {
			for _, offset := range []int64{0, 5399999, 16000000} {
				wrong := track.Track{Segments: tr.Segments, Groups: slices.Clone(tr.Groups)}
				wrong.Groups[i].Offset = offset
				wantFits(t, train(), wrong, api.ErrForm, i)
				wrong.Groups[n-1].Offset = offset
				wantFits(t, train(), wrong, api.ErrForm, i)
			}
		}
	}
}

// expectedFits is Fits' answer by the chapter.
func expectedFits(c conf.Config, tr track.Track) (api.Errno, int) {
	if brokenRule(c) != 0 {
		return api.ErrConf, 0
	}
	if err, _ := tr.Check(); err != api.OK {
		return api.ErrTrack, 0
	}
	i := slices.IndexFunc(tr.Groups, func(g track.Group) bool {
		behind, ahead := g.Offset, tr.Segments[g.Segment].Length-g.Offset
		reach := g.Acc + c.Antenna + c.MaxSpeed
		return behind < reach || ahead < reach
	})
	if i >= 0 {
		return api.ErrForm, i
	}
	return api.OK, 0
}

// someTrack is a track of the row whose groups nearly fit c.
func someTrack(row *scatter, c conf.Config) track.Track {
	var tr track.Track
	for range 1 + row.to(4) {
		s := track.Segment{Length: 2*(c.Antenna+c.MaxSpeed) + row.from(1, 1<<22), Pieces: level()}
		tr.Segments = append(tr.Segments, s)
	}
	for i := range row.to(4) {
		g := track.Group{Id: i + 1, Segment: row.to(len(tr.Segments)), Acc: row.from(0, 1<<20), Slack: row.from(0, 1<<24)}
		reach := g.Acc + c.Antenna + c.MaxSpeed
		length := tr.Segments[g.Segment].Length
		g.Offset = max(min([]int64{reach, length - reach, length / 2}[row.to(3)]+int64(row.to(5))-2, length), 0)
		tr.Groups = append(tr.Groups, g)
	}
	return tr
}

// P13.1: scattered configurations and tracks against the chapter.
func TestFitsScattered(t *testing.T) {
	row := scatter(132)
	seen := map[api.Errno]int{}
	for range 50000 {
		c := valid(&row)
		tr := someTrack(&row, c)
		if row.to(5) == 0 {
			numbers(&c)[row.to(14)].SetInt(row.any64())
		}
		if row.to(5) == 0 {
			tr.Segments[row.to(len(tr.Segments))].Length = row.any64()
		}
		want, index := expectedFits(c, tr)
		wantFits(t, c, tr, want, index)
		seen[want]++
	}
	for _, e := range []api.Errno{api.OK, api.ErrConf, api.ErrTrack, api.ErrForm} {
		if seen[e] < 1000 {
			t.Errorf("%d have the error %d", seen[e], e)
		}
	}
}

// P13.2: the reach is the sum of Acc, Antenna and MaxSpeed, whatever else the group has.
func TestReach(t *testing.T) {
	for _, x := range []struct{ acc, antenna, speed, want int64 }{
		{0, 0, 1, 1}, {2, 30, 400, 432}, {1 << 20, 1 << 20, 1 << 24, 18874368}, {1 << 20, 0, 1, 1048577}, {0, 1 << 20, 1, 1048577}, {0, 0, 1 << 24, 16777216}, {7, 0, 5000000, 5000007},
	} {
		c := with(func(c *conf.Config) { c.Antenna, c.MaxSpeed, c.Pulses, c.StillSpeed = x.antenna, x.speed, 1, 1<<24 })
		wantRule(t, c, 0)
		for _, o := range []int64{least, -1, 0, 1, 65535, 1 << 24, 1 << 40, most} {
			g := track.Group{Id: int(o), Segment: int(o), Offset: o, Acc: x.acc, Slack: o}
			if got := c.Reach(g); got != x.want {
				t.Errorf("Reach of %+v and %+v = %d; want %d", c, g, got, x.want)
			}
		}
	}
	row := scatter(133)
	for range 50000 {
		c := valid(&row)
		g := track.Group{Id: int(row.any64()), Segment: int(row.any64()), Offset: row.any64(), Acc: row.from(0, api.MaxAccel), Slack: row.any64()}
		if got := c.Reach(g); got != g.Acc+c.Antenna+c.MaxSpeed {
			t.Errorf("Reach of %+v and %+v = %d", c, g, got)
		}
	}
}

// P13.2: the spans of the circumferences and of the speeds.
func TestSpans(t *testing.T) {
	want := func(c conf.Config, circ, speeds span.Span) {
		t.Helper()
		if got := c.Circ(); got != circ {
			t.Errorf("Circ of %+v = %v; want %v", c, got, circ)
		}
		if got := c.Speeds(); got != speeds {
			t.Errorf("Speeds of %+v = %v; want %v", c, got, speeds)
		}
	}
	want(train(), span.Span{Lo: 2900000, Hi: 3000000}, span.Span{Lo: -5000000, Hi: 5000000})
	want(with(func(c *conf.Config) { c.CircLo, c.MaxSpeed = 3000000, 1 }), span.At(3000000), span.Span{Lo: -1, Hi: 1})
	want(with(func(c *conf.Config) { c.CircLo, c.CircHi, c.MaxSpeed = 1<<17, 1<<17+1<<13, 1<<24 }), span.Span{Lo: 131072, Hi: 139264}, span.Span{Lo: -16777216, Hi: 16777216})
	row := scatter(134)
	for range 50000 {
		c := valid(&row)
		want(c, span.Span{Lo: c.CircLo, Hi: c.CircHi}, span.Span{Lo: -c.MaxSpeed, Hi: c.MaxSpeed})
	}
}

// radar is train with another radar.
func radar(base, part int64) conf.Config {
	return with(func(c *conf.Config) { c.RadBase, c.RadPart, c.StillSpeed = base, part, 1<<24 })
}

// wantError is Error's answer written out, on both sides of 0.
func wantError(t *testing.T, c conf.Config, r, want int64) {
	t.Helper()
	if got := c.Error(r); got != want {
		t.Errorf("Error(%d) with %d and %d = %d; want %d", r, c.RadBase, c.RadPart, got, want)
	}
	if got := c.Error(-r); got != want && r != -1<<31 {
		t.Errorf("Error(%d) with %d and %d = %d; want %d", -r, c.RadBase, c.RadPart, got, want)
	}
}

// P13.2: errors of a radar written out, the chapter's example first.
func TestErrorWrittenOut(t *testing.T) {
	for _, x := range []struct{ base, part, r, want int64 }{
		{10, 1 << 16, -160, 20}, {10, 1 << 16, -161, 20}, {10, 1 << 16, -175, 20}, {10, 1 << 16, -176, 21}, {10, 1 << 16, -159, 19}, {10, 1 << 16, 0, 10}, {10, 1 << 16, 15, 10}, {10, 1 << 16, 16, 11},
		{0, 0, 0, 0}, {0, 0, 1<<31 - 1, 0}, {0, 0, -1 << 31, 0}, {7, 0, 1<<31 - 1, 7}, {7, 0, -1 << 31, 7}, {1 << 20, 0, 5, 1 << 20},
		{0, 1 << 16, 1<<31 - 1, 134217727}, {0, 1 << 16, -1<<31 + 1, 134217727}, {0, 1 << 16, -1 << 31, 134217728}, {1 << 20, 1 << 16, -1 << 31, 135266304}, {1 << 20, 1 << 16, 1<<31 - 1, 135266303},
		{0, 1, 1 << 20, 1}, {0, 1, 1<<20 - 1, 0}, {0, 1, 1<<21 - 1, 1}, {0, 1, 1 << 21, 2}, {0, 1, -1 << 31, 2048}, {0, 1, 1<<31 - 1, 2047}, {0, 3, 349525, 0}, {0, 3, 349526, 1}, {5, 3, 349526, 6},
		{0, 65535, 16, 0}, {0, 65535, 17, 1}, {0, 4000, 5000000, 19073}, {500, 4000, 5000000, 19573}, {500, 4000, 262, 500}, {500, 4000, 263, 501},
	} {
		c := radar(x.base, x.part)
		wantRule(t, c, 0)
		wantError(t, c, x.r, x.want)
	}
}

// P13.2: each report near 0, and scattered ones, against numbers of any size.
func TestErrorScattered(t *testing.T) {
	try := func(c conf.Config, r int64) {
		t.Helper()
		want := new(big.Int).Mul(new(big.Int).Abs(big.NewInt(r)), big.NewInt(c.RadPart))
		want.Div(want, big.NewInt(1<<20)).Add(want, big.NewInt(c.RadBase))
		wantError(t, c, r, want.Int64())
	}
	for _, part := range []int64{0, 1, 2, 3, 4000, 1<<15 + 1, 1<<16 - 1, 1 << 16} {
		for r := int64(-5000); r <= 5000; r++ {
			try(radar(10, part), r)
		}
	}
	row := scatter(135)
	for range 200000 {
		try(valid(&row), row.from(-1<<31, 1<<31-1))
	}
}

// wantGrowth is Growth's answer written out.
func wantGrowth(t *testing.T, c conf.Config, far, cycles int64) {
	t.Helper()
	if a, b := c.Growth(); a != far || b != cycles {
		t.Errorf("Growth of %+v = %d, %d; want %d, %d", c, a, b, far, cycles)
	}
}

// P13.3: numbers written out: both quotients are rounded up before they are multiplied.
func TestGrowthWrittenOut(t *testing.T) {
	for _, x := range []struct{ pulses, lo, hi, base, part, far, cycles int64 }{
		{100, 2900000, 3000000, 500, 4000, 4*36158 + 24000, 360000 + 3009},
		{100, 3000000, 3000000, 0, 0, 0, 360009},
		{100, 3000000, 3000000, 1, 0, 0, 360015},
		{100, 3000000, 3000000, 0, 1, 6, 360009},
		{100, 2999999, 2999999, 0, 0, 0, 360009},
		{100, 3000001, 3000001, 0, 0, 0, 360021},
		{100, 3000050, 3000050, 0, 0, 0, 360021},
		{100, 3000100, 3000100, 0, 0, 0, 360021},
		{100, 131072, 131073, 0, 0, 32, 12*1311 + 9},
		{100, 131073, 131074, 0, 0, 32, 12*1311 + 9},
		{100, 145635, 145636, 0, 0, 32, 12*1457 + 9},
		{100, 1 << 20, 1<<20 + 1, 0, 0, 4, 12*10486 + 9},
		{100, 1<<20 + 1, 1<<20 + 2, 0, 0, 4, 12*10486 + 9},
		{100, 1<<20 - 1, 1 << 20, 0, 0, 8, 12*10486 + 9},
		{1024, 1 << 17, 1<<17 + 1<<13, 1 << 20, 1 << 16, 262144 + 393216, 1632 + 6291456 + 9},
		{1, 1 << 23, 1 << 23, 1 << 20, 1 << 16, 393216, 100663296 + 6291456 + 9},
		{1024, 1 << 23, 1 << 23, 0, 0, 0, 98313},
		{1024, 1 << 17, 1 << 17, 0, 0, 0, 1545},
		{1024, 1 << 17, 1<<17 + 1, 0, 0, 32, 1557},
		{1, 8000000, 1 << 23, 0, 0, 4 * 50936, 100663305},
	} {
		c := with(func(c *conf.Config) {
			c.Pulses, c.CircLo, c.CircHi, c.RadBase, c.RadPart = x.pulses, x.lo, x.hi, x.base, x.part
			c.MaxSpeed, c.StillSpeed = 1, 1<<24
		})
		wantRule(t, c, 0)
		wantGrowth(t, c, x.far, x.cycles)
	}
}

// roundedUp is a / b, both above 0 or a 0, as the number of times that b goes into a, and once more if something is left.
func roundedUp(a, b int64) int64 {
	q, left := new(big.Int).DivMod(big.NewInt(a), big.NewInt(b), new(big.Int))
	return q.Int64() + int64(left.Sign())
}

// P13.3: scattered configurations against numbers of any size.
func TestGrowthScattered(t *testing.T) {
	row := scatter(136)
	for range 100000 {
		c := valid(&row)
		wantGrowth(t, c, 4*roundedUp(1<<20*(c.CircHi-c.CircLo), c.CircLo)+6*c.RadPart, 12*roundedUp(c.CircHi, c.Pulses)+6*c.RadBase+9)
	}
}

// P13.2 and P13.3: what no chapter names for a call does not change its answer.
func TestOtherNumbers(t *testing.T) {
	row := scatter(137)
	for range 20000 {
		c := valid(&row)
		o := c
		o.AccErr, o.MaxAccel, o.Still, o.Roll, o.Timeout, o.Brake = row.from(0, 1<<20), row.from(1, 1<<20), int(row.from(1, 1000)), row.from(0, 1<<30), int(row.from(1, 1000)), row.from(1, 1<<20)
		o.StillSpeed = 1 << 24
		g := track.Group{Acc: row.from(0, 1<<20)}
		r := row.from(-1<<31, 1<<31-1)
		far, cycles := c.Growth()
		wantGrowth(t, o, far, cycles)
		if o.Circ() != c.Circ() || o.Speeds() != c.Speeds() || o.Reach(g) != c.Reach(g) || o.Error(r) != c.Error(r) {
			t.Errorf("%+v has another answer than %+v", o, c)
		}
	}
}

// wild is a configuration of any numbers.
func wild(row *scatter) conf.Config {
	var c conf.Config
	for _, f := range numbers(&c) {
		f.SetInt(row.any64())
	}
	return c
}

// P1: any numbers, configurations and tracks end, without a panic.
func TestNotValid(t *testing.T) {
	row := scatter(138)
	tracks := []track.Track{
		{},
		{Segments: make([]track.Segment, 201), Groups: make([]track.Group, 401)},
		{Groups: []track.Group{{Id: 9, Segment: -1}, {Id: 3, Segment: 400}}},
		on([]int64{least, most}, track.Group{Id: 1, Segment: math.MaxInt, Offset: least}, track.Group{Id: 2, Segment: math.MinInt, Offset: most}),
		on([]int64{1 << 40}, track.Group{Id: 1, Offset: 1 << 39}),
	}
	for i := range 100000 {
		c := wild(&row)
		if i%3 == 0 {
			c = valid(&row)
			numbers(&c)[row.to(14)].SetInt(row.any64())
		}
		if i == 0 {
			c = conf.Config{}
		}
		wantRule(t, c, brokenRule(c))
		for _, tr := range tracks {
			want, index := expectedFits(c, tr)
			wantFits(t, c, tr, want, index)
		}
		c.Reach(track.Group{Id: int(row.any64()), Segment: int(row.any64()), Offset: row.any64(), Acc: row.any64(), Slack: row.any64()})
		c.Circ()
		c.Speeds()
		for _, r := range []int64{least, most, row.any64()} {
			c.Error(r)
		}
		c.Growth()
	}
}

// The document's rules: nil and empty lists are the same.
func TestEmptyLists(t *testing.T) {
	for _, tr := range []track.Track{
		{Segments: []track.Segment{{Length: 5, Pieces: level()}}},
		{Segments: []track.Segment{{Length: 5, Pieces: level(), Next: []int{}}}, Groups: []track.Group{}},
	} {
		wantFits(t, train(), tr, api.OK, 0)
	}
	wantFits(t, train(), track.Track{Segments: []track.Segment{}, Groups: []track.Group{}}, api.ErrTrack, 0)
}

// copied is a track that shares nothing with another one, with what lies behind its lists.
func copied(tr track.Track) track.Track {
	segments := slices.Clone(tr.Segments[:cap(tr.Segments)])
	for i, s := range segments {
		segments[i].Pieces = slices.Clone(s.Pieces[:cap(s.Pieces)])
		segments[i].Next = slices.Clone(s.Next[:cap(s.Next)])
	}
	return track.Track{Segments: segments, Groups: slices.Clone(tr.Groups[:cap(tr.Groups)])}
}

// The document's rules: neither the lists of a track nor what lies behind them is changed, and a call's answer is the same each time.
func TestArguments(t *testing.T) {
	row := scatter(139)
	for range 2000 {
		c := valid(&row)
		tr := someTrack(&row, c)
		kept := copied(tr)
		want, index := expectedFits(c, tr)
		for range 2 {
			wantFits(t, c, tr, want, index)
		}
		if !reflect.DeepEqual(copied(tr), kept) {
			t.Errorf("the track is %v; it was %v", copied(tr), kept)
		}
	}
}
