package link_test

import (
	"math"
	"math/big"
	"reflect"
	"slices"
	"testing"

	"odograph/api"
	"odograph/conf"
	"odograph/grade"
	"odograph/link"
	"odograph/route"
	"odograph/span"
	"odograph/track"
)

const (
	least = math.MinInt64
	most  = math.MaxInt64

	// The most that Acc and Antenna, and Slack, may be.
	wide  = 1 << 20
	slack = 1 << 24
)

type sp = span.Span

func of(lo, hi int64) sp { return sp{Lo: lo, Hi: hi} }

// scatter is a row of numbers, always the same one.
type scatter uint64

func (s *scatter) next() uint64 {
	*s = *s*6364136223846793005 + 1442695040888963407
	return uint64(*s ^ *s>>31)
}

// to is a number of the row from 0 to n - 1.
func (s *scatter) to(n int) int { return int(s.next() >> 8 % uint64(n)) }

// odds is true once in n times.
func (s *scatter) odds(n int) bool { return s.to(n) == 0 }

// from is a number of the row from lo to hi, an end rather often.
func (s *scatter) from(lo, hi int64) int64 {
	switch s.to(6) {
	case 0:
		return lo
	case 1:
		return hi
	}
	return lo + int64(s.next()%uint64(hi-lo+1))
}

// within is a valid span of the row from lo to hi.
func (s *scatter) within(lo, hi int64) sp {
	a, b := s.from(lo, hi), s.from(lo, hi)
	return of(min(a, b), max(a, b))
}

// any64 is a number of the row that is near an edge rather often.
func (s *scatter) any64() int64 {
	edges := []int64{least, -1 << 44, -1 << 40, -1 << 20, -1000, 0, 1, 2, 1000, 1 << 20, 1 << 40, 1 << 44, most}
	if s.to(3) > 0 {
		return edges[s.to(len(edges))] + int64(s.to(3)) - 1
	}
	return int64(s.next()) >> s.to(64)
}

// any is a valid span of any numbers.
func (s *scatter) any() sp {
	a, b := s.any64(), s.any64()
	return of(min(a, b), max(a, b))
}

// train is a valid configuration with such an Antenna.
func train(t *testing.T, antenna int64) conf.Config {
	t.Helper()
	c := conf.Config{
		Pulses: 100, CircLo: 2900000, CircHi: 3000000, RadBase: 500, RadPart: 4000, AccErr: 300, MaxSpeed: 5000000, MaxAccel: 200000,
		Antenna: antenna, Still: 5, StillSpeed: 40000, Roll: 2000000, Timeout: 20, Brake: 50000,
	}
	if err, rule := c.Check(); err != api.OK {
		t.Fatalf("%+v breaks rule %d", c, rule)
	}
	return c
}

// valid ends a test whose track is not valid.
func valid(t *testing.T, tr track.Track) {
	t.Helper()
	if err, i := tr.Check(); err != api.OK {
		t.Fatalf("Check of %v = %d, %d", tr, err, i)
	}
}

// laid is a segment of a length with one piece of the grade 0, and those that follow it.
func laid(length int64, next ...int) track.Segment {
	return track.Segment{Length: length, Pieces: []grade.Piece{{}}, Next: next}
}

// straight is a track of one long segment on which groups lie at these positions, as Begin(0, 0) measures them.
func straight(groups ...track.Group) track.Track {
	for i := range groups {
		groups[i].Id = i + 1
	}
	return track.Track{Segments: []track.Segment{laid(api.MaxLength)}, Groups: groups}
}

// path is the route of these segments.
func path(segments ...int) route.Route {
	r := route.Route{N: len(segments)}
	copy(r.Seg[:], segments)
	return r
}

// set is the set of the routes of these segments.
func set(from int64, paths ...[]int) route.Set {
	s := route.Set{From: from}
	for _, p := range paths {
		s.List = append(s.List, path(p...))
	}
	return s
}

// wantPassage is Passage's answer written out.
func wantPassage(t *testing.T, pos, speed, want sp) {
	t.Helper()
	if got, ok := link.Passage(pos, speed); !ok || got != want {
		t.Errorf("Passage(%v, %v) = %v, %t; want %v", pos, speed, got, ok, want)
	}
}

// wantNoPassage is Passage's answer, if an end does not fit.
func wantNoPassage(t *testing.T, pos, speed sp) {
	t.Helper()
	if got, ok := link.Passage(pos, speed); ok || got != (sp{}) {
		t.Errorf("Passage(%v, %v) = %v, %t; want none", pos, speed, got, ok)
	}
}

// P20.1: forward, backward, in both directions, and standing, at each edge of the sign of a speed.
func TestPassageWrittenOut(t *testing.T) {
	for _, c := range []struct{ pos, speed, want sp }{
		{of(100, 110), of(4, 10), of(100, 120)},
		{of(100, 110), of(0, 10), of(100, 120)},
		{of(100, 110), of(-1, 10), of(99, 120)},
		{of(100, 110), of(1, 1), of(100, 111)},
		{of(100, 110), of(10, 10), of(100, 120)},
		{of(100, 110), of(0, 0), of(100, 110)},
		{of(100, 110), of(-1, -1), of(99, 110)},
		{of(100, 110), of(-10, -4), of(90, 110)},
		{of(100, 110), of(-10, 0), of(90, 110)},
		{of(100, 110), of(-10, 1), of(90, 111)},
		{of(100, 110), of(-10, 10), of(90, 120)},
		{of(0, 0), of(-3, 5), of(-3, 5)},
		{of(-7, -7), of(2, 3), of(-7, -4)},
		{of(-7, -7), of(20, 30), of(-7, 23)},
		{of(-7, -7), of(-30, -20), of(-37, -7)},
		{of(-7, 7), of(-30, -20), of(-37, 7)},
		{of(-7, 7), of(20, 30), of(-7, 37)},
		{of(-api.MaxPlace, api.MaxPlace), of(-api.MaxSpeed, api.MaxSpeed), of(-api.MaxPlace-api.MaxSpeed, api.MaxPlace+api.MaxSpeed)},
	} {
		wantPassage(t, c.pos, c.speed, c.want)
	}
}

// P20.1: an end that just fits, and one that does not; only a speed that leads there makes it too great.
func TestPassageTooGreat(t *testing.T) {
	for _, c := range []struct{ pos, speed, want sp }{
		{of(0, most-5), of(0, 5), of(0, most)},
		{of(0, most), of(-5, 0), of(-5, most)},
		{of(0, most), of(-5, -1), of(-5, most)},
		{of(most, most), of(0, 0), of(most, most)},
		{of(most, most), of(least, -1), of(-1, most)},
		{of(least+5, 0), of(-5, 0), of(least, 0)},
		{of(least, 0), of(0, 5), of(least, 5)},
		{of(least, 0), of(1, 5), of(least, 5)},
		{of(least, least), of(0, 0), of(least, least)},
		{of(least, least), of(1, most), of(least, -1)},
		{of(least, most), of(0, 0), of(least, most)},
		{of(0, 0), of(least, most), of(least, most)},
		{of(0, 0), of(least, least), of(least, 0)},
		{of(0, 0), of(most, most), of(0, most)},
		{of(-1, -1), of(most, most), of(-1, most-1)},
	} {
		wantPassage(t, c.pos, c.speed, c.want)
	}
	for _, c := range []struct{ pos, speed sp }{
		{of(0, most-5), of(0, 6)}, {of(0, most-5), of(6, 6)}, {of(0, most-5), of(-3, 6)}, {of(0, most), of(0, 1)}, {of(most, most), of(1, 1)}, {of(most, most), of(least, 1)},
		{of(least+5, 0), of(-6, 0)}, {of(least+5, 0), of(-6, -6)}, {of(least+5, 0), of(-6, 3)}, {of(least, 0), of(-1, 0)}, {of(least, least), of(-1, -1)}, {of(least, least), of(-1, most)},
		{of(least, most), of(0, 1)}, {of(least, most), of(-1, 0)}, {of(least, most), of(-1, 1)}, {of(0, 1), of(least, most)}, {of(-1, 0), of(least, most)}, {of(-1, 1), of(least, most)},
		{of(least, least), of(least, least)}, {of(most, most), of(most, most)}, {of(least, most), of(least, most)}, {of(-1, -1), of(least, least)}, {of(1, 1), of(most, most)},
	} {
		wantNoPassage(t, c.pos, c.speed)
	}
}

// P20.1: all small spans: a train is at each position between where it was and where it is then, and nowhere else.
func TestPassageSmall(t *testing.T) {
	for lo := int64(-4); lo <= 4; lo++ {
		for hi := lo; hi <= 4; hi++ {
			for slow := int64(-5); slow <= 5; slow++ {
				for fast := slow; fast <= 5; fast++ {
					var at []int64
					for x := lo; x <= hi; x++ {
						for v := slow; v <= fast; v++ {
							at = append(at, x, x+v)
						}
					}
					wantPassage(t, of(lo, hi), of(slow, fast), of(slices.Min(at), slices.Max(at)))
				}
			}
		}
	}
}

// P20.1: scattered spans against sums that cannot be too great.
func TestPassageScattered(t *testing.T) {
	row := scatter(201)
	none := 0
	for range 300000 {
		pos, speed := row.any(), row.any()
		lo, hi := big.NewInt(pos.Lo), big.NewInt(pos.Hi)
		if speed.Lo < 0 {
			lo.Add(lo, big.NewInt(speed.Lo))
		}
		if speed.Hi > 0 {
			hi.Add(hi, big.NewInt(speed.Hi))
		}
		if lo.IsInt64() && hi.IsInt64() {
			wantPassage(t, pos, speed, of(lo.Int64(), hi.Int64()))
			continue
		}
		none++
		wantNoPassage(t, pos, speed)
	}
	if none < 30000 || none > 270000 {
		t.Errorf("%d do not fit", none)
	}
}

// P20.1: the sum of three numbers, at each edge of each of them; nothing else of the configuration or the group counts.
func TestWindow(t *testing.T) {
	for _, antenna := range []int64{0, 1, 3, 400000, wide - 1, wide} {
		c := train(t, antenna)
		bare := conf.Config{Antenna: antenna}
		for _, acc := range []int64{0, 1, 2, 500, wide - 1, wide} {
			for _, more := range []int64{0, 1, 7, 90000, slack - 1, slack} {
				tr := straight(track.Group{Offset: 77, Acc: acc, Slack: more})
				valid(t, tr)
				want := acc + antenna + more
				for _, g := range []track.Group{tr.Groups[0], {Acc: acc, Slack: more}, {Id: 65535, Segment: 9, Offset: 1 << 40, Acc: acc, Slack: more}} {
					if got := link.Window(c, g); got != want {
						t.Errorf("Window of %d, %v = %d; want %d", antenna, g, got, want)
					}
					if got := link.Window(bare, g); got != want {
						t.Errorf("Window of %d alone, %v = %d; want %d", antenna, g, got, want)
					}
				}
			}
		}
	}
}

// wantFitting is Fitting's answer written out.
func wantFitting(t *testing.T, c conf.Config, tr track.Track, s route.Set, passage sp, group int, want ...int64) {
	t.Helper()
	if got := link.Fitting(c, tr, s, passage, group); !slices.Equal(got, want) {
		t.Errorf("Fitting of %d on %v with %v, from %v, with an Antenna of %d = %v; want %v", group, s, tr, passage, c.Antenna, got, want)
	}
}

// P20.2: the chapter's example, on both sides of the passage, however the window of 5 comes about.
func TestFittingExample(t *testing.T) {
	for _, window := range []struct{ acc, antenna, slack int64 }{{5, 0, 0}, {0, 5, 0}, {0, 0, 5}, {1, 1, 3}, {2, 1, 2}, {3, 2, 0}, {0, 4, 1}} {
		c := train(t, window.antenna)
		for _, at := range []struct {
			offset int64
			fits   bool
		}{
			{125, true}, {126, false}, {95, true}, {94, false}, {124, true}, {127, false}, {96, true}, {93, false}, {119, true}, {120, true}, {121, true},
			{99, true}, {100, true}, {101, true}, {110, true}, {0, false}, {1000, false}, {api.MaxLength, false},
		} {
			tr := straight(track.Group{Offset: at.offset, Acc: window.acc, Slack: window.slack})
			valid(t, tr)
			if at.fits {
				wantFitting(t, c, tr, route.Begin(0, 0), of(100, 120), 0, at.offset)
				wantFitting(t, c, tr, route.Begin(0, 90), of(10, 30), 0, at.offset-90)
				wantFitting(t, c, tr, route.Begin(0, 200), of(-100, -80), 0, at.offset-200)
				continue
			}
			wantFitting(t, c, tr, route.Begin(0, 0), of(100, 120), 0)
			wantFitting(t, c, tr, route.Begin(0, 90), of(10, 30), 0)
			wantFitting(t, c, tr, route.Begin(0, 200), of(-100, -80), 0)
		}
	}
}

// P20.2: a window of 0, and a passage of one position.
func TestFittingNarrow(t *testing.T) {
	tr := straight(track.Group{Offset: 50})
	valid(t, tr)
	for at := int64(45); at <= 55; at++ {
		for antenna := range int64(7) {
			var want []int64
			if max(at-50, 50-at) <= antenna {
				want = []int64{50}
			}
			wantFitting(t, train(t, antenna), tr, route.Begin(0, 0), span.At(at), 0, want...)
		}
	}
	wantFitting(t, train(t, 0), tr, route.Begin(0, 0), of(50, 90), 0, 50)
	wantFitting(t, train(t, 0), tr, route.Begin(0, 0), of(51, 90), 0)
	wantFitting(t, train(t, 0), tr, route.Begin(0, 0), of(10, 50), 0, 50)
	wantFitting(t, train(t, 0), tr, route.Begin(0, 0), of(10, 49), 0)
}

// branches is a track whose first segment leads by two ways, of 17 and 15, to a loop of the length 9, with groups on all of them.
func branches() track.Track {
	return track.Track{
		Segments: []track.Segment{laid(10, 1, 2), laid(7, 3), laid(5, 3), laid(9, 3)},
		Groups: []track.Group{
			{Id: 2, Segment: 0, Offset: 5}, {Id: 4, Segment: 3, Offset: 4}, {Id: 6, Segment: 1, Offset: 1, Acc: 3}, {Id: 8, Segment: 2, Offset: 5, Slack: 2}, {Id: 9, Segment: 0, Offset: 10},
		},
	}
}

// P20.2: a group that lies at several positions on the routes fits at some of them, which ascend, each once, though the routes do not tell them so.
func TestFittingSeveral(t *testing.T) {
	tr := branches()
	valid(t, tr)
	c := train(t, 1)
	// From 2 on, group 1 lies at 19, 28 and 37 on one of the routes, and at 17 and 26 on the other one.
	s := set(2, []int{0, 1, 3, 3, 3}, []int{0, 2, 3, 3})
	wantFitting(t, c, tr, s, of(0, 100), 1, 17, 19, 26, 28, 37)
	wantFitting(t, c, tr, s, of(18, 36), 1, 17, 19, 26, 28, 37)
	wantFitting(t, c, tr, s, of(19, 35), 1, 19, 26, 28)
	wantFitting(t, c, tr, s, of(20, 26), 1, 19, 26)
	wantFitting(t, c, tr, s, of(21, 24), 1)
	wantFitting(t, c, tr, s, of(20, 25), 1, 19, 26)
	wantFitting(t, c, tr, s, of(27, 27), 1, 26, 28)
	wantFitting(t, c, tr, s, of(18, 18), 1, 17, 19)
	wantFitting(t, c, tr, s, of(39, 100), 1)
	wantFitting(t, c, tr, s, of(38, 100), 1, 37)
	wantFitting(t, c, tr, s, of(-100, 15), 1)
	wantFitting(t, c, tr, s, of(-100, 16), 1, 17)
	wantFitting(t, train(t, 2), tr, s, of(21, 24), 1, 19, 26)
	wantFitting(t, train(t, 3), tr, s, of(22, 22), 1, 19)
	wantFitting(t, train(t, 5), tr, s, of(24, 24), 1, 19, 26, 28)
	// Each of the others lies on one of both alone, or on the segment that both have.
	wantFitting(t, c, tr, s, of(4, 4), 0, 3)
	wantFitting(t, c, tr, s, of(5, 5), 0)
	wantFitting(t, c, tr, s, of(13, 13), 2, 9)
	wantFitting(t, c, tr, s, of(14, 14), 2)
	wantFitting(t, c, tr, s, of(9, 10), 3, 13)
	wantFitting(t, c, tr, s, of(9, 9), 3)
	wantFitting(t, c, tr, s, of(9, 9), 4, 8)
	// Both ways are as long now, so that both routes have the same positions.
	tr.Segments[1].Length = 5
	wantFitting(t, c, tr, s, of(0, 100), 1, 17, 26, 35)
	wantFitting(t, c, tr, s, of(18, 18), 1, 17)
}

// P20.2: a group that lies near by, but on no route, does not fit; nor does one that is not there.
func TestFittingNone(t *testing.T) {
	tr := branches()
	valid(t, tr)
	c := train(t, wide)
	for _, passage := range []sp{of(0, 0), of(0, 100), of(-10, 9), of(least, most), of(least, least), of(most, most), of(-api.MaxPlace, api.MaxPlace)} {
		for _, s := range []route.Set{route.Begin(0, 2), set(2, []int{0, 1}), set(2, []int{0, 1, 3, 3}), set(2, []int{0, 1, 3}, []int{0, 2, 3}), route.Begin(3, 9)} {
			for _, group := range []int{-1, 5, 6, 400, math.MinInt, math.MaxInt} {
				wantFitting(t, c, tr, s, passage, group)
			}
			wantFitting(t, c, track.Track{Segments: tr.Segments}, s, passage, 0)
			wantFitting(t, c, track.Track{Segments: tr.Segments, Groups: []track.Group{}}, s, passage, 0)
		}
		wantFitting(t, c, tr, route.Begin(0, 2), passage, 1)
		wantFitting(t, c, tr, route.Begin(0, 2), passage, 2)
		wantFitting(t, c, tr, route.Begin(0, 2), passage, 3)
		wantFitting(t, c, tr, set(2, []int{0, 1, 3}), passage, 3)
		wantFitting(t, c, tr, set(2, []int{0, 2, 3}), passage, 2)
		wantFitting(t, c, tr, set(2, []int{0, 1}, []int{0, 2}), passage, 1)
		wantFitting(t, c, tr, route.Begin(3, 9), passage, 0)
	}
	wantFitting(t, c, tr, set(2, []int{0, 1, 3}, []int{0, 2, 3}), of(0, 0), 2, 9)
	wantFitting(t, c, tr, set(2, []int{0, 1, 3}, []int{0, 2, 3}), of(0, 0), 3, 13)
}

// P20.2: the window is that of this group, whatever those of the others are.
func TestFittingOfGroup(t *testing.T) {
	tr := straight(track.Group{Offset: 40, Acc: 5}, track.Group{Offset: 40, Slack: 9}, track.Group{Offset: 40}, track.Group{Offset: 40, Acc: 5, Slack: 9})
	valid(t, tr)
	for group, window := range []int64{8, 12, 3, 17} {
		for far := range int64(30) {
			var want []int64
			if far <= window {
				want = []int64{40}
			}
			wantFitting(t, train(t, 3), tr, route.Begin(0, 0), of(40+far, 200), group, want...)
			wantFitting(t, train(t, 3), tr, route.Begin(0, 0), of(-50, 40-far), group, want...)
		}
	}
}

// far is how far a position is from the nearest one of a valid span.
func far(at int64, from sp) *big.Int {
	nearest := min(max(at, from.Lo), from.Hi)
	d := new(big.Int).Sub(big.NewInt(at), big.NewInt(nearest))
	return d.Abs(d)
}

// expected is Fitting's answer by the chapter, with numbers that cannot be too great.
func expected(c conf.Config, tr track.Track, s route.Set, passage sp, group int) []int64 {
	var fitting []int64
	for _, at := range s.Places(tr, group) {
		g := tr.Groups[group]
		window := new(big.Int).Add(big.NewInt(g.Acc+g.Slack), big.NewInt(c.Antenna))
		if far(at, passage).Cmp(window) <= 0 {
			fitting = append(fitting, at)
		}
	}
	return fitting
}

// P20.2: the greatest windows, lengths and passages.
func TestFittingGreat(t *testing.T) {
	tr := track.Track{
		Segments: []track.Segment{laid(api.MaxLength, 0)},
		Groups:   []track.Group{{Id: 1, Offset: api.MaxLength, Acc: wide, Slack: slack}, {Id: 2}},
	}
	valid(t, tr)
	c := train(t, wide)
	const window = 2*wide + slack
	last := int64(12 << 40)
	s := set(0, make([]int, 12))
	wantFitting(t, c, tr, s, of(last+window, most), 0, last)
	wantFitting(t, c, tr, s, of(last+window+1, most), 0)
	wantFitting(t, c, tr, s, of(least, 1<<40-window), 0, 1<<40)
	wantFitting(t, c, tr, s, of(least, 1<<40-window-1), 0)
	wantFitting(t, c, tr, s, of(1<<41, 3<<40), 0, 2<<40, 3<<40)
	wantFitting(t, c, tr, s, of(least, least), 0)
	wantFitting(t, c, tr, s, of(most, most), 0)
	wantFitting(t, c, tr, route.Begin(0, api.MaxLength), of(least, -1<<40), 1, -1<<40)
	wantFitting(t, c, tr, route.Begin(0, api.MaxLength), of(least, -1<<40-wide), 1, -1<<40)
	wantFitting(t, c, tr, route.Begin(0, api.MaxLength), of(least, -1<<40-wide-1), 1)
	all := s.Places(tr, 0)
	if len(all) != 12 {
		t.Fatalf("group 0 lies at %v", all)
	}
	wantFitting(t, c, tr, s, of(least, most), 0, all...)
	wantFitting(t, c, tr, s, of(0, most), 0, all...)
	wantFitting(t, c, tr, s, of(least, last), 0, all...)
}

// P20.2: an Antenna that no valid configuration has, down to a window below 0 and up to one beyond 64 bits.
func TestFittingAnyAntenna(t *testing.T) {
	tr := straight(track.Group{Offset: 9, Acc: 4, Slack: 3}, track.Group{Offset: 9, Acc: wide, Slack: slack}, track.Group{Offset: 9})
	valid(t, tr)
	begin := route.Begin(0, 0)
	for _, antenna := range []int64{-8, -9, -1 << 40, least, least + 7} {
		wantFitting(t, conf.Config{Antenna: antenna}, tr, begin, of(0, 20), 0)
		wantFitting(t, conf.Config{Antenna: antenna}, tr, begin, of(least, most), 0)
	}
	wantFitting(t, conf.Config{Antenna: -7}, tr, begin, of(9, 20), 0, 9)
	wantFitting(t, conf.Config{Antenna: -7}, tr, begin, of(10, 20), 0)
	wantFitting(t, conf.Config{Antenna: most}, tr, begin, of(most-1, most), 0, 9)
	wantFitting(t, conf.Config{Antenna: most}, tr, begin, of(most, most), 0, 9)
	wantFitting(t, conf.Config{Antenna: most}, tr, begin, of(least, least+9), 2)
	wantFitting(t, conf.Config{Antenna: most}, tr, begin, of(least, least+10), 2, 9)
	wantFitting(t, conf.Config{Antenna: most}, tr, begin, of(least, least+2), 0)
	wantFitting(t, conf.Config{Antenna: most}, tr, begin, of(least, least+3), 0, 9)
	wantFitting(t, conf.Config{Antenna: most}, tr, begin, of(least, least), 1, 9)
	wantFitting(t, conf.Config{Antenna: most - slack}, tr, begin, of(least, least), 1, 9)
	wantFitting(t, conf.Config{Antenna: most - 7}, tr, begin, of(least, least+10), 0, 9)
	wantFitting(t, conf.Config{Antenna: most - 7}, tr, begin, of(least, least+9), 0)
	row := scatter(202)
	fits := 0
	for range 200000 {
		c, group := conf.Config{Antenna: row.any64()}, row.to(3)
		tr.Groups[1].Acc, tr.Groups[1].Slack = row.from(0, wide), row.from(0, slack)
		s, passage := route.Begin(0, row.from(0, 20)), row.any()
		want := expected(c, tr, s, passage, group)
		wantFitting(t, c, tr, s, passage, group, want...)
		fits += len(want)
	}
	if fits < 40000 || fits > 160000 {
		t.Errorf("%d fit", fits)
	}
}

// some is a valid track of the row, with lengths of at most longest.
func (s *scatter) some(longest int) track.Track {
	n := 1 + s.to(7)
	var tr track.Track
	for i := range n {
		seg := laid(int64(1 + s.to(longest)))
		for range s.to(4) {
			seg.Next = append(seg.Next, (i+s.to(n))%n)
		}
		slices.Sort(seg.Next)
		seg.Next = slices.Compact(seg.Next)
		seg.Next = seg.Next[:min(len(seg.Next), 2)]
		tr.Segments = append(tr.Segments, seg)
	}
	for i := range 1 + s.to(5) {
		g := track.Group{Id: 3*i + 1, Segment: s.to(n), Acc: int64(s.to(4)), Slack: int64(s.to(6))}
		g.Offset = int64(s.to(int(tr.Segments[g.Segment].Length) + 1))
		tr.Groups = append(tr.Groups, g)
	}
	return tr
}

// begin is a set of the row that Begin returns.
func (s *scatter) begin(tr track.Track) route.Set {
	segment := s.to(len(tr.Segments))
	return route.Begin(segment, int64(s.to(int(tr.Segments[segment].Length)+1)))
}

// sets are sets of the row that Begin and Grow return.
func (s *scatter) sets(tr track.Track) []route.Set {
	all := []route.Set{s.begin(tr)}
	for at := int64(0); at < 40; at += int64(s.to(12)) + 1 {
		last := all[len(all)-1]
		next, err := last.Grow(tr, of(at-int64(s.to(5)), at+int64(s.to(9))))
		if err == api.OK {
			all = append(all, next)
		}
	}
	return all
}

// reads tells by the chapter, position by position, whether a group at a position fits on a passage.
func reads(at, window int64, passage sp) bool {
	for x := passage.Lo; x <= passage.Hi; x++ {
		if max(x-at, at-x) <= window {
			return true
		}
	}
	return false
}

// P20.2: scattered tracks and sets against the chapter, position by position.
func TestFittingScattered(t *testing.T) {
	row := scatter(203)
	many := map[int]int{}
	left := 0
	for range 4000 {
		tr := row.some(9)
		valid(t, tr)
		for _, s := range row.sets(tr) {
			group := row.to(len(tr.Groups))
			c := conf.Config{Antenna: int64(row.to(6))}
			passage := row.within(-15, 50)
			if row.odds(2) {
				passage.Hi = passage.Lo + int64(row.to(6))
			}
			var want []int64
			for _, at := range s.Places(tr, group) {
				if reads(at, tr.Groups[group].Acc+c.Antenna+tr.Groups[group].Slack, passage) {
					want = append(want, at)
				} else {
					left++
				}
			}
			wantFitting(t, c, tr, s, passage, group, want...)
			many[len(want)]++
		}
	}
	for n := range 6 {
		if many[n] < 20 {
			t.Errorf("%d groups fit at %d positions", many[n], n)
		}
	}
	if left < 2000 {
		t.Errorf("%d positions do not fit", left)
	}
}

// P20.2: nothing of the configuration but Antenna decides, nor does which other routes there are.
func TestFittingOfConfig(t *testing.T) {
	row := scatter(204)
	for range 3000 {
		tr := row.some(9)
		antenna := int64(row.to(6))
		for _, s := range row.sets(tr) {
			passage, group := row.within(-15, 50), row.to(len(tr.Groups))
			all := link.Fitting(train(t, antenna), tr, s, passage, group)
			wantFitting(t, conf.Config{Antenna: antenna}, tr, s, passage, group, all...)
			var one []int64
			for _, r := range s.List {
				one = append(one, link.Fitting(train(t, antenna), tr, route.Set{From: s.From, List: []route.Route{r}}, passage, group)...)
			}
			slices.Sort(one)
			wantFitting(t, train(t, antenna), tr, s, passage, group, slices.Compact(one)...)
		}
	}
}

// The chapter's conclusion: a train that is in its span and as fast as it may be reads a group on its way, which lies off its nominal position, from afar: the group fits there.
func TestFittingOfTruth(t *testing.T) {
	row := scatter(205)
	read, edges := 0, 0
	for range 40000 {
		tr := row.some(20)
		begin := row.begin(tr)
		antenna := row.from(0, 5)
		pos, speed := row.within(-begin.From, 60), row.within(-15, 15)
		x, v := row.from(pos.Lo, pos.Hi), row.from(speed.Lo, speed.Hi)
		// During the cycle it is at each position from x to x + v.
		y := row.from(min(x, x+v), max(x, x+v))
		passage, ok := link.Passage(pos, speed)
		if !ok || !passage.Has(y) {
			t.Fatalf("Passage(%v, %v) = %v, %t; the train was at %d", pos, speed, passage, ok, y)
		}
		now := of(max(-begin.From, pos.Lo+speed.Lo), pos.Hi+speed.Hi)
		s, err := begin.Grow(tr, now)
		if err != api.OK {
			continue
		}
		for group, g := range tr.Groups {
			for _, nominal := range s.Places(tr, group) {
				really := nominal + row.from(-g.Acc, g.Acc)
				if max(really-y, y-really) > antenna {
					continue
				}
				read++
				if !slices.Contains(link.Fitting(train(t, antenna), tr, s, passage, group), nominal) {
					t.Fatalf("group %d at %d, nominally at %d, does not fit on %v, but is read at %d with an Antenna of %d", group, really, nominal, passage, y, antenna)
				}
				if max(nominal-y, y-nominal) == g.Acc+antenna {
					edges++
				}
			}
		}
	}
	if read < 5000 || edges < 500 {
		t.Errorf("%d groups are read, %d of them at the edge", read, edges)
	}
}

// wild is a configuration of any numbers.
func (s *scatter) wild() conf.Config {
	var c conf.Config
	v := reflect.ValueOf(&c).Elem()
	for i := range v.NumField() {
		v.Field(i).SetInt(s.any64())
	}
	return c
}

// wildTrack is a track of any numbers.
func (s *scatter) wildTrack() track.Track {
	var tr track.Track
	for range s.to(6) {
		seg := track.Segment{Length: s.any64()}
		for range s.to(4) {
			seg.Next = append(seg.Next, int(s.any64()), s.to(6))
		}
		tr.Segments = append(tr.Segments, seg)
	}
	for range s.to(4) {
		g := track.Group{Id: int(s.any64()), Segment: int(s.any64()), Offset: s.any64(), Acc: s.any64(), Slack: s.any64()}
		if s.odds(2) {
			g.Segment = s.to(6)
		}
		tr.Groups = append(tr.Groups, g)
	}
	return tr
}

// wildSet is a set of any numbers.
func (s *scatter) wildSet() route.Set {
	w := route.Set{From: s.any64()}
	for range s.to(5) {
		r := route.Route{N: s.to(14)}
		if s.odds(4) {
			r.N = int(s.any64())
		}
		for i := range r.Seg {
			r.Seg[i] = s.to(6)
			if s.odds(4) {
				r.Seg[i] = int(s.any64())
			}
		}
		w.List = append(w.List, r)
	}
	return w
}

// P1: any arguments end, without a panic, and twice alike.
func TestNotValid(t *testing.T) {
	row := scatter(206)
	for range 100000 {
		c, tr, s := row.wild(), row.wildTrack(), row.wildSet()
		passage, speed := of(row.any64(), row.any64()), of(row.any64(), row.any64())
		got, ok := link.Passage(passage, speed)
		if again, okAgain := link.Passage(passage, speed); again != got || okAgain != ok {
			t.Errorf("Passage(%v, %v) = %v, %t, then %v, %t", passage, speed, got, ok, again, okAgain)
		}
		if !ok && got != (sp{}) {
			t.Errorf("Passage(%v, %v) = %v, false", passage, speed, got)
		}
		for group := -1; group <= len(tr.Groups); group++ {
			wantFitting(t, c, tr, s, passage, group, link.Fitting(c, tr, s, passage, group)...)
		}
		link.Fitting(c, tr, s, passage, int(row.any64()))
		link.Fitting(c, track.Track{}, s, passage, 0)
		link.Fitting(c, tr, route.Set{}, passage, 0)
		for _, g := range tr.Groups {
			if a, b := link.Window(c, g), link.Window(c, g); a != b {
				t.Errorf("Window of %d, %v = %d, then %d", c.Antenna, g, a, b)
			}
		}
	}
}

// The document's rules: nil and empty lists are the same.
func TestEmptyLists(t *testing.T) {
	tr := branches()
	c := train(t, 1)
	for _, empty := range []route.Set{{}, {List: []route.Route{}}, {From: 2}, {From: 2, List: []route.Route{}}} {
		wantFitting(t, c, tr, empty, of(0, 100), 0)
	}
	for _, next := range [][]int{nil, {}} {
		tr.Segments[3].Next = next
		wantFitting(t, c, tr, set(2, []int{0, 1, 3}, []int{0, 2, 3}), of(0, 100), 1, 17, 19)
	}
}

// copied is a track that shares nothing with another one, with what lies behind its lists.
func copied(tr track.Track) track.Track {
	segments := slices.Clone(tr.Segments[:cap(tr.Segments)])
	for i, s := range segments {
		segments[i].Pieces = slices.Clone(s.Pieces[:cap(s.Pieces)])
		segments[i].Next = slices.Clone(s.Next[:cap(s.Next)])
	}
	return track.Track{Segments: segments, Groups: slices.Clone(tr.Groups[:cap(tr.Groups)])}
}

// The document's rules: neither the lists of an argument nor what lies behind them are changed, and no two results share memory.
func TestArguments(t *testing.T) {
	row := scatter(207)
	shown := 0
	for range 1000 {
		tr := row.some(9)
		c := train(t, int64(row.to(6)))
		for _, s := range row.sets(tr) {
			s.List = append(s.List, path(9, 9, 9), path(8, 8, 8))[:len(s.List)]
			passage, group := row.within(-15, 50), row.to(len(tr.Groups))
			keptTrack, keptList := copied(tr), slices.Clone(s.List[:cap(s.List)])
			first := link.Fitting(c, tr, s, passage, group)
			want := slices.Clone(first)
			second := link.Fitting(c, tr, s, passage, group)
			for i := range first[:cap(first)] {
				first[:cap(first)][i] = -77
				shown++
			}
			if !slices.Equal(second, want) {
				t.Fatalf("two results share memory: %v; want %v", second, want)
			}
			wantFitting(t, c, tr, s, passage, group, want...)
			if !reflect.DeepEqual(copied(tr), keptTrack) || !slices.Equal(s.List[:cap(s.List)], keptList) {
				t.Fatalf("Fitting of %d on %v with %v changed an argument", group, s, tr)
			}
		}
	}
	if shown < 1000 {
		t.Errorf("%d positions overwritten", shown)
	}
}
