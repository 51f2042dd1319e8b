package place_test

import (
	"math"
	"math/big"
	"reflect"
	"slices"
	"testing"

	"odograph/api"
	"odograph/conf"
	"odograph/grade"
	"odograph/place"
	"odograph/route"
	"odograph/span"
	"odograph/track"
)

const (
	least = math.MinInt64
	most  = math.MaxInt64

	// The most that Acc and Antenna may be.
	wide = 1 << 20
	// The MaxSpeed of train.
	fastest = 5000000
)

type sp = span.Span

func of(lo, hi int64) sp { return sp{Lo: lo, Hi: hi} }

// scatter is a row of numbers, always the same one.
type scatter uint64

func (s *scatter) next() uint64 {
	*s = *s*6364136223846793005 + 1442695040888963407
	return uint64(*s ^ *s>>31)
}

// to is a number of the row from 0 to n - 1.
func (s *scatter) to(n int) int { return int(s.next() >> 8 % uint64(n)) }

// odds is true once in n times.
func (s *scatter) odds(n int) bool { return s.to(n) == 0 }

// from is a number of the row from lo to hi, an end rather often.
func (s *scatter) from(lo, hi int64) int64 {
	switch s.to(6) {
	case 0:
		return lo
	case 1:
		return hi
	}
	return lo + int64(s.next()%uint64(hi-lo+1))
}

// within is a valid span of the row from lo to hi.
func (s *scatter) within(lo, hi int64) sp {
	a, b := s.from(lo, hi), s.from(lo, hi)
	return of(min(a, b), max(a, b))
}

// any64 is a number of the row that is near an edge rather often.
func (s *scatter) any64() int64 {
	edges := []int64{least, -1 << 44, -1 << 40, -1 << 20, -1000, 0, 1, 2, 1000, 1 << 20, 1 << 40, 1 << 44, most}
	if s.to(3) > 0 {
		return edges[s.to(len(edges))] + int64(s.to(3)) - 1
	}
	return int64(s.next()) >> s.to(64)
}

// any is a valid span of any numbers.
func (s *scatter) any() sp {
	a, b := s.any64(), s.any64()
	return of(min(a, b), max(a, b))
}

// train is a valid configuration with such an Antenna.
func train(t *testing.T, antenna int64) conf.Config {
	t.Helper()
	c := conf.Config{
		Pulses: 100, CircLo: 2900000, CircHi: 3000000, RadBase: 500, RadPart: 4000, AccErr: 300, MaxSpeed: fastest, MaxAccel: 200000,
		Antenna: antenna, Still: 5, StillSpeed: 40000, Roll: 2000000, Timeout: 20, Brake: 50000,
	}
	if err, rule := c.Check(); err != api.OK {
		t.Fatalf("%+v breaks rule %d", c, rule)
	}
	return c
}

// valid ends a test whose track is not valid.
func valid(t *testing.T, tr track.Track) {
	t.Helper()
	if err, i := tr.Check(); err != api.OK {
		t.Fatalf("Check of %v = %d, %d", tr, err, i)
	}
}

// laid is a segment of a length with one piece of the grade 0, and those that follow it.
func laid(length int64, next ...int) track.Segment {
	return track.Segment{Length: length, Pieces: []grade.Piece{{}}, Next: next}
}

// straight is a track of one long segment on which groups lie at these positions, as Begin(0, 0) measures them.
func straight(groups ...track.Group) track.Track {
	for i := range groups {
		groups[i].Id = i + 1
	}
	return track.Track{Segments: []track.Segment{laid(api.MaxLength)}, Groups: groups}
}

// path is the route of these segments.
func path(segments ...int) route.Route {
	r := route.Route{N: len(segments)}
	copy(r.Seg[:], segments)
	return r
}

// set is the set of the routes of these segments.
func set(from int64, paths ...[]int) route.Set {
	s := route.Set{From: from}
	for _, p := range paths {
		s.List = append(s.List, path(p...))
	}
	return s
}

// same tells whether both places are equal, nil and empty lists alike.
func same(a, b place.Place) bool {
	return a.On == b.On && a.Group == b.Group && a.Pos == b.Pos && a.Est == b.Est && a.Set.From == b.Set.From && slices.Equal(a.Set.List, b.Set.List)
}

// on is a place that is On.
func on(group int, pos sp, est int64, s route.Set) place.Place {
	return place.Place{On: true, Group: group, Pos: pos, Est: est, Set: s}
}

// wantReset is Reset's answer written out.
func wantReset(t *testing.T, c conf.Config, tr track.Track, group int, speed sp, want place.Place) {
	t.Helper()
	if got := place.Reset(c, tr, group, speed); !same(got, want) {
		t.Errorf("Reset of %d on %v, with an Antenna of %d and %v = %v; want %v", group, tr.Groups, c.Antenna, speed, got, want)
	}
}

// wantMove is Move's answer written out, which it gives.
func wantMove(t *testing.T, p place.Place, tr track.Track, speed sp, want place.Place) place.Place {
	t.Helper()
	got, err := p.Move(tr, speed)
	if err != api.OK || !same(got, want) {
		t.Errorf("%v moved on %v by %v = %v, %d; want %v", p, tr.Segments, speed, got, err, want)
	}
	return got
}

// wantNoMove is Move's answer, if there is no place.
func wantNoMove(t *testing.T, p place.Place, tr track.Track, speed sp, want api.Errno) {
	t.Helper()
	if got, err := p.Move(tr, speed); err != want || !same(got, place.Place{}) {
		t.Errorf("%v moved on %v by %v = %v, %d; want %d", p, tr.Segments, speed, got, err, want)
	}
}

// P21.1: the chapter's example, however the 5 come about, wherever the group lies.
func TestResetExample(t *testing.T) {
	for acc := range int64(6) {
		for _, offset := range []int64{0, 3, 100, api.MaxLength} {
			tr := straight(track.Group{Offset: offset, Acc: acc, Slack: 8})
			valid(t, tr)
			wantReset(t, train(t, 5-acc), tr, 0, of(10, 20), on(0, of(-5, 25), 10, route.Begin(0, offset)))
		}
	}
}

// P21.1: forward, backward, in both directions, and standing, at each edge of the sign of a speed; and the Mid of an odd sum, which is rounded down on both sides of 0.
func TestResetWrittenOut(t *testing.T) {
	tr := straight(track.Group{Offset: 50, Acc: 2, Slack: 7})
	valid(t, tr)
	c := train(t, 3)
	for _, x := range []struct {
		speed, pos sp
		est        int64
	}{
		{of(0, 0), of(-5, 5), 0},
		{of(0, 1), of(-5, 6), 0},
		{of(0, 2), of(-5, 7), 1},
		{of(0, 3), of(-5, 8), 1},
		{of(1, 1), of(-5, 6), 0},
		{of(1, 20), of(-5, 25), 10},
		{of(20, 20), of(-5, 25), 10},
		{of(-1, 0), of(-6, 5), -1},
		{of(-1, -1), of(-6, 5), -1},
		{of(-2, -1), of(-7, 5), -1},
		{of(-3, -1), of(-8, 5), -2},
		{of(-20, -10), of(-25, 5), -10},
		{of(-20, -20), of(-25, 5), -10},
		{of(-20, 0), of(-25, 5), -10},
		{of(-20, 1), of(-25, 6), -10},
		{of(-20, 20), of(-25, 25), 0},
		{of(-1, 20), of(-6, 25), 9},
		{of(-1, 1), of(-6, 6), 0},
		{of(-1, 2), of(-6, 7), 0},
		{of(-2, 1), of(-7, 6), -1},
		{of(fastest, fastest), of(-5, fastest+5), fastest / 2},
		{of(-fastest, -fastest), of(-fastest-5, 5), -fastest / 2},
		{of(-fastest, fastest), of(-fastest-5, fastest+5), 0},
		{of(0, fastest-1), of(-5, fastest+4), fastest/2 - 1},
		{of(1-fastest, 0), of(-fastest-4, 5), -fastest / 2},
	} {
		wantReset(t, c, tr, 0, x.speed, on(0, x.pos, x.est, route.Begin(0, 50)))
	}
}

// P21.1: the least and the greatest that Acc, Antenna and a speed may be.
func TestResetGreat(t *testing.T) {
	c := conf.Config{
		Pulses: 1, CircLo: 1 << 17, CircHi: 1 << 17, MaxSpeed: api.MaxSpeed, MaxAccel: 1, Antenna: wide, Still: 1, StillSpeed: 1 << 17, Timeout: 1, Brake: 1,
	}
	if err, rule := c.Check(); err != api.OK {
		t.Fatalf("%+v breaks rule %d", c, rule)
	}
	tr := straight(track.Group{Offset: 1 << 39, Acc: wide}, track.Group{Offset: api.MaxLength})
	valid(t, tr)
	const far = 2 * wide
	wantReset(t, c, tr, 0, of(-api.MaxSpeed, api.MaxSpeed), on(0, of(-far-api.MaxSpeed, far+api.MaxSpeed), 0, route.Begin(0, 1<<39)))
	wantReset(t, c, tr, 0, of(api.MaxSpeed, api.MaxSpeed), on(0, of(-far, far+api.MaxSpeed), api.MaxSpeed/2, route.Begin(0, 1<<39)))
	wantReset(t, c, tr, 0, of(-api.MaxSpeed, -api.MaxSpeed), on(0, of(-far-api.MaxSpeed, far), -api.MaxSpeed/2, route.Begin(0, 1<<39)))
	wantReset(t, c, tr, 0, of(0, 0), on(0, of(-far, far), 0, route.Begin(0, 1<<39)))
	wantReset(t, c, tr, 1, of(0, api.MaxSpeed), on(1, of(-wide, wide+api.MaxSpeed), api.MaxSpeed/2, route.Begin(0, api.MaxLength)))
	c.Antenna = 0
	wantReset(t, c, tr, 1, of(0, 0), on(1, of(0, 0), 0, route.Begin(0, api.MaxLength)))
	wantReset(t, c, tr, 1, of(0, 1), on(1, of(0, 1), 0, route.Begin(0, api.MaxLength)))
	wantReset(t, c, tr, 1, of(-1, 0), on(1, of(-1, 0), -1, route.Begin(0, api.MaxLength)))
}

// branches is a track whose first segment leads by two ways, of 17 and 15, to a loop of the length 9, with groups on all of them.
func branches() track.Track {
	return track.Track{
		Segments: []track.Segment{laid(10, 1, 2), laid(7, 3), laid(5, 3), laid(9, 3)},
		Groups: []track.Group{
			{Id: 2, Segment: 0, Offset: 5, Slack: 9}, {Id: 4, Segment: 3, Offset: 4, Acc: 1}, {Id: 6, Segment: 1, Offset: 1, Acc: 3}, {Id: 8, Segment: 2, Offset: 5, Slack: 2}, {Id: 9, Segment: 0, Offset: 10},
		},
	}
}

// P21.1: each group of a track: its index, its Acc alone, its segment and its offset.
func TestResetOfGroup(t *testing.T) {
	tr := branches()
	valid(t, tr)
	c := train(t, 2)
	for group, acc := range []int64{0, 1, 3, 0, 0} {
		g := tr.Groups[group]
		want := on(group, of(-acc-3, acc+8), 2, set(g.Offset, []int{g.Segment}))
		wantReset(t, c, tr, group, of(-1, 6), want)
	}
}

// P21.1: nothing else of the configuration, of the group or of the track counts, not even that it lies too near to an end of its segment.
func TestResetOfLittle(t *testing.T) {
	row := scatter(211)
	for range 3000 {
		tr := row.some(9)
		valid(t, tr)
		group, c, speed := row.to(len(tr.Groups)), train(t, row.from(0, 9)), row.within(-9, 9)
		g := tr.Groups[group]
		pos := of(-g.Acc-c.Antenna+min(0, speed.Lo), g.Acc+c.Antenna+max(0, speed.Hi))
		want := on(group, pos, int64(math.Floor(float64(pos.Lo+pos.Hi)/2)), set(g.Offset, []int{g.Segment}))
		wantReset(t, c, tr, group, speed, want)
		wantReset(t, conf.Config{Antenna: c.Antenna, MaxSpeed: 9}, tr, group, speed, want)
		tr.Groups[group].Slack, tr.Groups[group].Id = 0, 65535
		tr.Segments = nil
		wantReset(t, c, tr, group, speed, want)
	}
}

// P21.1: all small spans: the train read the group at some time of the cycle, no further away than it may, and moved before and behind that.
func TestResetSmall(t *testing.T) {
	for far := range int64(4) {
		tr := straight(track.Group{Offset: 50, Acc: far / 2})
		c := train(t, far-far/2)
		for slow := int64(-5); slow <= 5; slow++ {
			for fast := slow; fast <= 5; fast++ {
				var at []int64
				for v := slow; v <= fast; v++ {
					for read := -far; read <= far; read++ {
						for since := min(0, v); since <= max(0, v); since++ {
							at = append(at, read+since)
						}
					}
				}
				pos := of(slices.Min(at), slices.Max(at))
				wantReset(t, c, tr, 0, of(slow, fast), on(0, pos, (pos.Lo+pos.Hi+100)/2-50, route.Begin(0, 50)))
			}
		}
	}
}

// P21.2: what is not On does not move, whatever else is wrong.
func TestMoveNotOn(t *testing.T) {
	tr := branches()
	valid(t, tr)
	for _, speed := range []sp{of(0, 0), of(1, 2), of(-9, -3), of(0, most), of(least, 0), of(least, most), of(most, most), of(0, 50), of(-50, 0), of(-api.MaxPlace-1, 0)} {
		wantNoMove(t, place.Place{}, tr, speed, api.ErrNone)
		off := place.Reset(train(t, 2), tr, 0, of(0, 0))
		wantMove(t, off, tr, of(0, 0), off)
		off.On = false
		wantNoMove(t, off, tr, speed, api.ErrNone)
		lost, err := on(0, of(-1, 1), 0, route.Begin(0, 5)).Move(tr, of(-50, 0))
		if err != api.ErrLost {
			t.Fatalf("a place behind the track = %d", err)
		}
		wantNoMove(t, lost, tr, speed, api.ErrNone)
	}
}

// P21.2: places written out, one from another: along the track, on both ways, back again, and to a single way.
func TestMoveWrittenOut(t *testing.T) {
	tr := branches()
	valid(t, tr)
	p := place.Reset(train(t, 2), tr, 0, of(0, 0))
	p = wantMove(t, p, tr, of(0, 0), on(0, of(-2, 2), 0, set(5, []int{0})))
	p = wantMove(t, p, tr, of(3, 3), on(0, of(1, 5), 3, set(5, []int{0})))
	p = wantMove(t, p, tr, of(0, 1), on(0, of(1, 6), 3, set(5, []int{0, 1}, []int{0, 2})))
	p = wantMove(t, p, tr, of(-2, -1), on(0, of(-1, 5), 1, set(5, []int{0, 1}, []int{0, 2})))
	p = wantMove(t, p, tr, of(4, 7), on(0, of(3, 12), 6, set(5, []int{0, 1}, []int{0, 2, 3})))
	p = wantMove(t, p, tr, of(-8, -8), on(0, of(-5, 4), -2, set(5, []int{0, 1}, []int{0, 2, 3})))
	p = wantMove(t, p, tr, of(9, 16), on(0, of(4, 20), 10, set(5, []int{0, 1, 3}, []int{0, 2, 3, 3})))
	// The way over segment 1 ends at a dead end before 21 now.
	tr.Segments[1].Next, tr.Segments[1].Length = nil, 15
	p = on(3, of(19, 20), 19, set(5, []int{0, 1}, []int{0, 2, 3, 3}))
	p = wantMove(t, p, tr, of(1, 4), on(3, of(20, 24), 21, set(5, []int{0, 1}, []int{0, 2, 3, 3})))
	p = wantMove(t, p, tr, of(1, 5), on(3, of(21, 29), 24, set(5, []int{0, 2, 3, 3, 3})))
	wantMove(t, p, tr, of(-26, -20), on(3, of(-5, 9), 1, set(5, []int{0, 2, 3, 3, 3})))
}

// some is a valid track of the row, with lengths of at most longest.
func (s *scatter) some(longest int) track.Track {
	n := 1 + s.to(7)
	var tr track.Track
	for i := range n {
		seg := laid(int64(1 + s.to(longest)))
		for range s.to(4) {
			seg.Next = append(seg.Next, (i+s.to(n))%n)
		}
		slices.Sort(seg.Next)
		seg.Next = slices.Compact(seg.Next)
		seg.Next = seg.Next[:min(len(seg.Next), 2)]
		tr.Segments = append(tr.Segments, seg)
	}
	for i := range 1 + s.to(5) {
		g := track.Group{Id: 3*i + 1, Segment: s.to(n), Acc: int64(s.to(4)), Slack: int64(s.to(6))}
		g.Offset = int64(s.to(int(tr.Segments[g.Segment].Length) + 1))
		tr.Groups = append(tr.Groups, g)
	}
	return tr
}

// P21.2: all small places and speeds: where the train was and how fast it is, number by number; the one where it probably is moves by the Mid, which is rounded down.
func TestMoveSmall(t *testing.T) {
	tr := straight(track.Group{Offset: 50, Acc: 1})
	valid(t, tr)
	s := route.Begin(0, 50)
	for lo := int64(-3); lo <= 3; lo++ {
		for hi := lo; hi <= 3; hi++ {
			for est := lo; est <= hi; est++ {
				for slow := int64(-4); slow <= 4; slow++ {
					for fast := slow; fast <= 4; fast++ {
						mid := (slow+fast+100)/2 - 50
						wantMove(t, on(0, of(lo, hi), est, s), tr, of(slow, fast), on(0, of(lo+slow, hi+fast), est+mid, s))
					}
				}
			}
		}
	}
}

// P21.2: where a place's probable position lies outside its span, as of none that Reset or Move returned, it is held at an end of the new one.
func TestMoveHeld(t *testing.T) {
	tr := straight(track.Group{Offset: 50})
	valid(t, tr)
	s := route.Begin(0, 50)
	for _, x := range []struct{ before, want int64 }{
		{-10, 4}, {-4, 4}, {-3, 4}, {-2, 5}, {0, 7}, {3, 10}, {4, 11}, {5, 12}, {6, 12}, {100, 12}, {least, 4}, {most, 12}, {most - 7, 12}, {most - 6, 12},
	} {
		wantMove(t, on(0, of(-1, 3), x.before, s), tr, of(5, 9), on(0, of(4, 12), x.want, s))
	}
	for _, x := range []struct{ before, want int64 }{{least, -10}, {least + 7, -10}, {-4, -10}, {-3, -10}, {-2, -9}, {3, -4}, {5, -2}, {6, -2}, {most, -2}} {
		wantMove(t, on(0, of(-1, 3), x.before, s), tr, of(-9, -5), on(0, of(-10, -2), x.want, s))
	}
}

// P21.2: MaxPlace on both sides, at the edges and beside them, and from afar; a dead end is no end of the positions.
func TestMoveTooFar(t *testing.T) {
	tr := straight(track.Group{Offset: 50})
	valid(t, tr)
	s := route.Begin(0, 50)
	p := on(0, of(10, 20), 15, s)
	for _, x := range []struct {
		speed sp
		est   int64
	}{
		{of(0, api.MaxPlace-20), api.MaxPlace/2 + 5},
		{of(-60, api.MaxPlace-20), api.MaxPlace/2 - 25},
		{of(0, api.MaxPlace-21), api.MaxPlace/2 + 4},
		{of(api.MaxLength-70, api.MaxPlace-20), (api.MaxPlace+api.MaxLength)/2 - 30},
	} {
		wantMove(t, p, tr, x.speed, on(0, of(10+x.speed.Lo, 20+x.speed.Hi), x.est, s))
	}
	for _, speed := range []sp{
		of(0, api.MaxPlace-19), of(-60, api.MaxPlace-19), of(0, 1<<45), of(api.MaxLength, api.MaxPlace-19), of(0, most-20), of(-60, most-20),
		of(-api.MaxPlace-11, 0), of(-api.MaxPlace-11, -api.MaxPlace-11), of(-1<<45, 0), of(least, 0), of(least+50, -70), of(-api.MaxPlace-11, api.MaxPlace-19), of(least, most-20),
		of(-api.MaxPlace-11, api.MaxPlace-20), of(-api.MaxPlace-10, api.MaxPlace-19), of(api.MaxPlace, api.MaxPlace), of(api.MaxPlace-9, api.MaxPlace-20+11),
	} {
		wantNoMove(t, p, tr, speed, api.ErrOver)
	}
	// There are no routes that begin that far before the group, so that this is not too far, but lost.
	for _, speed := range []sp{of(-api.MaxPlace-10, 0), of(-api.MaxPlace-10, -api.MaxPlace-10), of(-api.MaxPlace-9, 0), of(-api.MaxPlace-10, api.MaxPlace-20)} {
		wantNoMove(t, p, tr, speed, api.ErrLost)
	}
	far := wantMove(t, p, tr, of(0, api.MaxPlace-20), on(0, of(10, api.MaxPlace), api.MaxPlace/2+5, s))
	wantMove(t, far, tr, of(0, 0), far)
	wantMove(t, far, tr, of(-1, 0), on(0, of(9, api.MaxPlace), api.MaxPlace/2+4, s))
	wantNoMove(t, far, tr, of(0, 1), api.ErrOver)
	wantNoMove(t, far, tr, of(1, 1), api.ErrOver)
	wantMove(t, far, tr, of(-60, -60), on(0, of(-50, api.MaxPlace-60), api.MaxPlace/2-55, s))
	wantNoMove(t, far, tr, of(-61, -60), api.ErrLost)
}

// P21.2: an end that does not fit into 64 bits, of a place near to a group and of one far away.
func TestMoveTooGreat(t *testing.T) {
	tr := straight(track.Group{Offset: 50})
	valid(t, tr)
	for _, pos := range []sp{of(0, 0), of(-5, 5), of(1, 1), of(-1, -1), of(10, 20), of(-50, -40), of(0, api.MaxPlace), of(api.MaxLength-50, api.MaxPlace)} {
		p := on(0, pos, pos.Mid(), route.Begin(0, 50))
		for _, speed := range []sp{of(least, least), of(least, 0), of(least, most), of(0, most), of(most, most), of(-1, most), of(least, 1), of(least+1, -1), of(1, most-1)} {
			wantNoMove(t, p, tr, speed, api.ErrOver)
		}
	}
	// The sum that wraps round would be near to the group.
	for _, x := range []struct{ pos, speed sp }{
		{of(1, most), of(1, most)}, {of(2, most), of(0, most)}, {of(least, -1), of(least, 1)}, {of(0, most), of(0, 1)}, {of(least, 0), of(-1, 0)}, {of(least, least), of(least, least)}, {of(most, most), of(most, most)},
	} {
		wantNoMove(t, on(0, x.pos, 0, route.Begin(0, 50)), tr, x.speed, api.ErrOver)
	}
}

// P21.2: before the beginning of the routes, and behind the last dead end, at each edge.
func TestMoveLost(t *testing.T) {
	tr := branches()
	valid(t, tr)
	p := place.Reset(train(t, 2), tr, 0, of(0, 0))
	wantMove(t, p, tr, of(-3, 0), on(0, of(-5, 2), -2, set(5, []int{0})))
	wantNoMove(t, p, tr, of(-4, 0), api.ErrLost)
	wantNoMove(t, p, tr, of(-4, 20), api.ErrLost)
	wantNoMove(t, p, tr, of(-4, -4), api.ErrLost)
	wantNoMove(t, p, tr, of(-40, -20), api.ErrLost)
	// The ways of 17 and of 15 end now.
	tr.Segments[1].Next, tr.Segments[2].Next = nil, nil
	wantMove(t, p, tr, of(12, 30), on(0, of(10, 32), 21, set(5, []int{0, 1}, []int{0, 2})))
	wantMove(t, p, tr, of(13, 30), on(0, of(11, 32), 21, set(5, []int{0, 1})))
	wantMove(t, p, tr, of(14, 30), on(0, of(12, 32), 22, set(5, []int{0, 1})))
	wantNoMove(t, p, tr, of(15, 30), api.ErrLost)
	wantNoMove(t, p, tr, of(15, 15), api.ErrLost)
	// A place that begins before its segment, as that of a track that does not fit the configuration.
	before := place.Reset(train(t, 2), tr, 2, of(0, 0))
	if before.Pos != of(-5, 5) {
		t.Fatalf("Reset = %v", before)
	}
	wantNoMove(t, before, tr, of(0, 0), api.ErrLost)
	wantNoMove(t, before, tr, of(3, 3), api.ErrLost)
	wantMove(t, before, tr, of(4, 4), on(2, of(-1, 9), 4, set(1, []int{1})))
	wantNoMove(t, before, tr, of(12, 12), api.ErrLost)
	wantMove(t, before, tr, of(11, 12), on(2, of(6, 17), 11, set(1, []int{1})))
}

// P21.2: too many segments in a way, and too many ways.
func TestMoveMany(t *testing.T) {
	loop := track.Track{Segments: []track.Segment{laid(10, 0)}, Groups: []track.Group{{Id: 1, Offset: 5}}}
	valid(t, loop)
	p := place.Reset(train(t, 2), loop, 0, of(0, 0))
	longest := make([]int, api.MaxDepth)
	wantMove(t, p, loop, of(50, 113), on(0, of(48, 115), 81, set(5, longest)))
	wantNoMove(t, p, loop, of(50, 114), api.ErrMany)
	wantNoMove(t, p, loop, of(114, 114), api.ErrMany)
	wantNoMove(t, p, loop, of(0, api.MaxPlace-2), api.ErrMany)
	wantNoMove(t, p, loop, of(0, api.MaxPlace-1), api.ErrOver)
	wantNoMove(t, p, loop, of(-4, 114), api.ErrLost)
	both := track.Track{Segments: []track.Segment{laid(10, 0, 1), laid(10, 0, 1)}, Groups: []track.Group{{Id: 1, Offset: 5}}}
	valid(t, both)
	got, err := p.Move(both, of(0, 43))
	if err != api.OK || len(got.Set.List) != api.MaxRoutes || got.Pos != of(-2, 45) || got.Est != 21 {
		t.Errorf("16 ways = %v, %d", got, err)
	}
	wantNoMove(t, p, both, of(0, 44), api.ErrMany)
	wantNoMove(t, got, both, of(0, 1), api.ErrMany)
	again, err := got.Move(both, of(0, 0))
	if err != api.OK || !same(again, got) {
		t.Errorf("16 ways = %v, %d; want %v", again, err, got)
	}
}

// expected is Move's answer by the chapter, with sums that cannot be too great.
func expected(p place.Place, tr track.Track, speed sp) (place.Place, api.Errno) {
	if !p.On {
		return place.Place{}, api.ErrNone
	}
	lo, hi := new(big.Int).Add(big.NewInt(p.Pos.Lo), big.NewInt(speed.Lo)), new(big.Int).Add(big.NewInt(p.Pos.Hi), big.NewInt(speed.Hi))
	if lo.Cmp(big.NewInt(-api.MaxPlace)) < 0 || hi.Cmp(big.NewInt(api.MaxPlace)) > 0 {
		return place.Place{}, api.ErrOver
	}
	pos := of(lo.Int64(), hi.Int64())
	grown, err := p.Set.Grow(tr, pos)
	if err != api.OK {
		return place.Place{}, err
	}
	mid := new(big.Int).Add(big.NewInt(speed.Lo), big.NewInt(speed.Hi))
	est := mid.Rsh(mid, 1).Int64() + p.Est
	return on(p.Group, pos, min(max(est, pos.Lo), pos.Hi), grown), api.OK
}

// P21.2: scattered places, one from another, and any speeds, against the chapter.
func TestMoveScattered(t *testing.T) {
	row := scatter(212)
	answers := map[api.Errno]int{}
	several := 0
	for range 20000 {
		tr := row.some(12)
		valid(t, tr)
		p := place.Reset(train(t, row.from(0, 3)), tr, row.to(len(tr.Groups)), row.within(-3, 6))
		for range 12 {
			speed := row.within(-6, 9)
			if row.odds(6) {
				speed = row.any()
			}
			want, wantErr := expected(p, tr, speed)
			got, err := p.Move(tr, speed)
			if err != wantErr || !same(got, want) {
				t.Fatalf("%v moved on %v by %v = %v, %d; want %v, %d", p, tr.Segments, speed, got, err, want, wantErr)
			}
			answers[err]++
			if err != api.OK {
				continue
			}
			if !got.Pos.Has(got.Est) {
				t.Fatalf("%v is probably outside", got)
			}
			p = got
			if len(p.Set.List) > 1 {
				several++
			}
		}
	}
	for _, err := range []api.Errno{api.OK, api.ErrOver, api.ErrLost, api.ErrMany} {
		if answers[err] < 1000 {
			t.Errorf("%d moves with %d", answers[err], err)
		}
	}
	if several < 10000 {
		t.Errorf("%d places with several ways", several)
	}
}

// P21.2: whatever ways a place has, they and the positions alone decide, neither the group's index nor where the train probably is.
func TestMoveOfLittle(t *testing.T) {
	row := scatter(213)
	for range 5000 {
		tr := row.some(12)
		p := place.Reset(train(t, row.from(0, 3)), tr, row.to(len(tr.Groups)), row.within(-3, 6))
		for range 6 {
			speed := row.within(-6, 9)
			got, err := p.Move(tr, speed)
			other := p
			other.Group, other.Est = 399, p.Pos.Lo
			bare := track.Track{Segments: tr.Segments}
			gotOther, errOther := other.Move(bare, speed)
			if errOther != err {
				t.Fatalf("%v moved by %v = %d, but %v = %d", p, speed, err, other, errOther)
			}
			if err != api.OK {
				break
			}
			if !same(gotOther, on(399, got.Pos, p.Pos.Lo+speed.Mid(), got.Set)) {
				t.Fatalf("%v moved by %v = %v, but %v = %v", p, speed, got, other, gotOther)
			}
			p = got
		}
	}
}

// way is a way of the row from a segment on, as long as it can be.
func (s *scatter) way(tr track.Track, segment int) []int {
	way := []int{segment}
	for len(way) < api.MaxDepth {
		next := tr.Segments[way[len(way)-1]].Next
		if len(next) == 0 {
			break
		}
		way = append(way, next[s.to(len(next))])
	}
	return way
}

// The chapter's conclusion: a train reads a group, which lies off its nominal position, from afar, and moves on along a way of its own: it is always where its place tells, and its way is one of those.
func TestPlaceOfTruth(t *testing.T) {
	row := scatter(214)
	cycles, switched, edges := 0, 0, 0
	for range 20000 {
		tr := row.some(25)
		group := row.to(len(tr.Groups))
		g := tr.Groups[group]
		way := row.way(tr, g.Segment)
		whole := set(g.Offset, way)
		last := whole.End(tr, whole.List[0])
		// During the cycle in which it reads the group, the train is at each position up to v from where it begins.
		antenna, speed := row.from(0, 3), row.within(-5, 5)
		v := row.from(speed.Lo, speed.Hi)
		x := row.from(-g.Acc, g.Acc) + row.from(-antenna, antenna) + v - row.from(min(0, v), max(0, v))
		p := place.Reset(train(t, antenna), tr, group, speed)
		for range 20 {
			if x < -g.Offset || x > last {
				break
			}
			if !p.Pos.Has(x) || !p.Set.Has(way) {
				t.Fatalf("a train at %d, on %v, is not in %v", x, way, p)
			}
			cycles++
			if x == p.Pos.Lo || x == p.Pos.Hi {
				edges++
			}
			if len(p.Set.List) > 1 {
				switched++
			}
			speed = row.within(-6, 9)
			x += row.from(speed.Lo, speed.Hi)
			next, err := p.Move(tr, speed)
			if err == api.ErrMany || err == api.ErrLost && p.Pos.Lo+speed.Lo < -g.Offset || x > last {
				break
			}
			if err != api.OK {
				t.Fatalf("%v moved on %v by %v = %d, with a train at %d", p, tr.Segments, speed, err, x)
			}
			p = next
		}
	}
	if cycles < 30000 || switched < 5000 || edges < 1000 {
		t.Errorf("%d cycles, %d of them with several ways, and %d at an edge", cycles, switched, edges)
	}
}

// wild is a configuration of any numbers.
func (s *scatter) wild() conf.Config {
	var c conf.Config
	v := reflect.ValueOf(&c).Elem()
	for i := range v.NumField() {
		v.Field(i).SetInt(s.any64())
	}
	return c
}

// wildTrack is a track of any numbers.
func (s *scatter) wildTrack() track.Track {
	var tr track.Track
	for range s.to(6) {
		seg := track.Segment{Length: s.any64()}
		for range s.to(4) {
			seg.Next = append(seg.Next, int(s.any64()), s.to(6))
		}
		tr.Segments = append(tr.Segments, seg)
	}
	for range s.to(4) {
		g := track.Group{Id: int(s.any64()), Segment: int(s.any64()), Offset: s.any64(), Acc: s.any64(), Slack: s.any64()}
		if s.odds(2) {
			g.Segment = s.to(6)
		}
		tr.Groups = append(tr.Groups, g)
	}
	return tr
}

// wildSet is a set of any numbers.
func (s *scatter) wildSet() route.Set {
	w := route.Set{From: s.any64()}
	for range s.to(5) {
		r := route.Route{N: s.to(14)}
		if s.odds(4) {
			r.N = int(s.any64())
		}
		for i := range r.Seg {
			r.Seg[i] = s.to(6)
			if s.odds(4) {
				r.Seg[i] = int(s.any64())
			}
		}
		w.List = append(w.List, r)
	}
	return w
}

// wildPlace is a place of any numbers.
func (s *scatter) wildPlace() place.Place {
	return place.Place{On: !s.odds(5), Group: int(s.any64()), Pos: of(s.any64(), s.any64()), Est: s.any64(), Set: s.wildSet()}
}

// P1: any arguments end, without a panic, and twice alike; with an error there is nothing else.
func TestNotValid(t *testing.T) {
	row := scatter(215)
	answers := map[api.Errno]int{}
	for range 100000 {
		c, tr, p, speed := row.wild(), row.wildTrack(), row.wildPlace(), of(row.any64(), row.any64())
		for group := -1; group <= len(tr.Groups); group++ {
			wantReset(t, c, tr, group, speed, place.Reset(c, tr, group, speed))
			place.Reset(c, tr, group, speed).Move(tr, speed)
		}
		for _, group := range []int{int(row.any64()), math.MinInt, math.MaxInt} {
			place.Reset(c, tr, group, speed)
			place.Reset(c, track.Track{}, group, speed)
		}
		if row.odds(2) {
			p.Pos, speed = row.within(-9, 40), row.within(-9, 9)
		}
		got, err := p.Move(tr, speed)
		again, errAgain := p.Move(tr, speed)
		if err != errAgain || !same(got, again) || err != api.OK && !same(got, place.Place{}) {
			t.Fatalf("%v moved by %v = %v, %d, then %v, %d", p, speed, got, err, again, errAgain)
		}
		p.Move(track.Track{}, speed)
		answers[err]++
	}
	for _, err := range []api.Errno{api.OK, api.ErrNone, api.ErrOver, api.ErrLost, api.ErrMany} {
		if answers[err] < 100 {
			t.Errorf("%d moves with %d", answers[err], err)
		}
	}
}

// The document's rules: nil and empty lists are the same.
func TestEmptyLists(t *testing.T) {
	tr := branches()
	c := train(t, 2)
	for _, empty := range []route.Set{{}, {List: []route.Route{}}, {From: 5}, {From: 5, List: []route.Route{}}} {
		wantNoMove(t, on(0, of(0, 3), 1, empty), tr, of(0, 1), api.ErrLost)
		wantNoMove(t, place.Place{Set: empty}, tr, of(0, 1), api.ErrNone)
	}
	for _, next := range [][]int{nil, {}} {
		tr.Segments[1].Next = next
		p := place.Reset(c, tr, 2, of(2, 6))
		wantMove(t, p, tr, of(4, 9), on(2, of(-1, 20), 9, set(1, []int{1})))
	}
}

// copied is a track that shares nothing with another one, with what lies behind its lists.
func copied(tr track.Track) track.Track {
	segments := slices.Clone(tr.Segments[:cap(tr.Segments)])
	for i, s := range segments {
		segments[i].Pieces = slices.Clone(s.Pieces[:cap(s.Pieces)])
		segments[i].Next = slices.Clone(s.Next[:cap(s.Next)])
	}
	return track.Track{Segments: segments, Groups: slices.Clone(tr.Groups[:cap(tr.Groups)])}
}

// The document's rules: neither the lists of an argument nor what lies behind them are changed, and no result shares memory with another one, or with an argument.
func TestArguments(t *testing.T) {
	row := scatter(216)
	shown := 0
	spoil := func(p place.Place) {
		list := p.Set.List[:cap(p.Set.List)]
		for i := range list {
			list[i] = path(7, 7, 7)
			shown++
		}
	}
	for range 2000 {
		tr := row.some(12)
		c := train(t, row.from(0, 3))
		group, speed := row.to(len(tr.Groups)), row.within(-3, 6)
		kept := copied(tr)
		first, p := place.Reset(c, tr, group, speed), place.Reset(c, tr, group, speed)
		spoil(first)
		wantReset(t, c, tr, group, speed, p)
		for range 8 {
			speed = row.within(-4, 9)
			p.Set.List = append(p.Set.List, path(9, 9, 9), path(8, 8, 8))[:len(p.Set.List)]
			keptPlace, keptList := p, slices.Clone(p.Set.List[:cap(p.Set.List)])
			moved, err := p.Move(tr, speed)
			again, _ := p.Move(tr, speed)
			if err != api.OK {
				continue
			}
			want := again
			want.Set.List = slices.Clone(again.Set.List)
			spoil(moved)
			if !same(again, want) {
				t.Fatalf("two results share memory: %v; want %v", again, want)
			}
			if !same(p, keptPlace) || !slices.Equal(p.Set.List[:cap(p.Set.List)], keptList) || !reflect.DeepEqual(copied(tr), kept) {
				t.Fatalf("a move by %v changed an argument, or shares memory with it", speed)
			}
			spoil(p)
			if !same(again, want) {
				t.Fatalf("a result and the place before it share memory: %v; want %v", again, want)
			}
			p = again
		}
	}
	if shown < 10000 {
		t.Errorf("%d routes overwritten", shown)
	}
}
