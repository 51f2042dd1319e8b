package brake_test

import (
	"math"
	"math/big"
	"reflect"
	"slices"
	"testing"

	"odograph/api"
	"odograph/brake"
	"odograph/conf"
	"odograph/grade"
	"odograph/route"
	"odograph/span"
	"odograph/track"
)

const (
	least = math.MinInt64
	most  = math.MaxInt64

	// What Ends tells where no dead end can be reached.
	none = -1
)

type sp = span.Span

func of(lo, hi int64) sp { return sp{Lo: lo, Hi: hi} }

// scatter is a row of numbers, always the same one.
type scatter uint64

func (s *scatter) next() uint64 {
	*s = *s*6364136223846793005 + 1442695040888963407
	return uint64(*s ^ *s>>31)
}

// to is a number of the row from 0 to n - 1.
func (s *scatter) to(n int) int { return int(s.next() >> 8 % uint64(n)) }

// odds is true once in n times.
func (s *scatter) odds(n int) bool { return s.to(n) == 0 }

// from is a number of the row from lo to hi, an end rather often.
func (s *scatter) from(lo, hi int64) int64 {
	switch s.to(6) {
	case 0:
		return lo
	case 1:
		return hi
	}
	return lo + int64(s.next()%uint64(hi-lo+1))
}

// within is a valid span of the row from lo to hi.
func (s *scatter) within(lo, hi int64) sp {
	a, b := s.from(lo, hi), s.from(lo, hi)
	return of(min(a, b), max(a, b))
}

// any64 is a number of the row that is near an edge rather often.
func (s *scatter) any64() int64 {
	edges := []int64{least, -1 << 44, -1 << 40, -1 << 20, -1000, 0, 1, 2, 1000, 1 << 20, 1 << 40, 1 << 44, most}
	if s.to(3) > 0 {
		return edges[s.to(len(edges))] + int64(s.to(3)) - 1
	}
	return int64(s.next()) >> s.to(64)
}

// train is a valid configuration with such a Brake and MaxSpeed.
func train(t *testing.T, by, fastest int64) conf.Config {
	t.Helper()
	c := conf.Config{
		Pulses: 1, CircLo: 1 << 22, CircHi: 1 << 22, RadBase: 500, RadPart: 4000, AccErr: 300, MaxSpeed: fastest, MaxAccel: 200000,
		Antenna: 3, Still: 5, StillSpeed: 1 << 22, Roll: 2000000, Timeout: 20, Brake: by,
	}
	if err, rule := c.Check(); err != api.OK {
		t.Fatalf("%+v breaks rule %d", c, rule)
	}
	return c
}

// valid ends a test whose track is not valid.
func valid(t *testing.T, tr track.Track) {
	t.Helper()
	if err, i := tr.Check(); err != api.OK {
		t.Fatalf("Check of %v = %d, %d", tr, err, i)
	}
}

// laid is a segment of a length with one piece of the grade 0, and those that follow it.
func laid(length int64, next ...int) track.Segment {
	return track.Segment{Length: length, Pieces: []grade.Piece{{}}, Next: next}
}

// made is a valid track of some segments.
func made(t *testing.T, segments ...track.Segment) track.Track {
	t.Helper()
	tr := track.Track{Segments: segments}
	valid(t, tr)
	return tr
}

// set is the set of the routes of these segments.
func set(from int64, paths ...[]int) route.Set {
	s := route.Set{From: from}
	for _, p := range paths {
		r := route.Route{N: len(p)}
		copy(r.Seg[:], p)
		s.List = append(s.List, r)
	}
	return s
}

// wantEnds is Ends' answer written out.
func wantEnds(t *testing.T, tr track.Track, want ...int64) {
	t.Helper()
	if got := brake.Ends(tr); !slices.Equal(got, want) {
		t.Errorf("Ends of %v = %v; want %v", tr.Segments, got, want)
	}
}

// wantFree is Free's answer written out, if a dead end can be reached.
func wantFree(t *testing.T, tr track.Track, s route.Set, at, want int64) {
	t.Helper()
	if got, ok := brake.Free(tr, brake.Ends(tr), s, at); !ok || got != want {
		t.Errorf("Free of %v on %v from %d = %d, %t; want %d", s, tr.Segments, at, got, ok, want)
	}
}

// wantNoFree is Free's answer, if no dead end can be reached.
func wantNoFree(t *testing.T, tr track.Track, s route.Set, at int64) {
	t.Helper()
	if got, ok := brake.Free(tr, brake.Ends(tr), s, at); ok || got != 0 {
		t.Errorf("Free of %v on %v from %d = %d, %t; want none", s, tr.Segments, at, got, ok)
	}
}

// wantPermitted is Permitted's answer written out.
func wantPermitted(t *testing.T, c conf.Config, free, want int64) {
	t.Helper()
	if got := brake.Permitted(c, free); got != want {
		t.Errorf("Permitted of %d with a Brake of %d and a MaxSpeed of %d = %d; want %d", free, c.Brake, c.MaxSpeed, got, want)
	}
}

// P22.1: tracks written out: a dead end itself, what leads to it, and what leads to none.
func TestEndsWrittenOut(t *testing.T) {
	wantEnds(t, made(t, laid(10)), 0)
	wantEnds(t, made(t, laid(1), laid(api.MaxLength)), 0, 0)
	wantEnds(t, made(t, laid(10, 0)), none)
	wantEnds(t, made(t, laid(10, 1), laid(7)), 7, 0)
	wantEnds(t, made(t, laid(10), laid(7, 0)), 0, 10)
	wantEnds(t, made(t, laid(10, 1), laid(7, 2), laid(5)), 12, 5, 0)
	wantEnds(t, made(t, laid(10), laid(7, 0), laid(5, 1)), 0, 10, 17)
	wantEnds(t, made(t, laid(10, 2), laid(7), laid(5, 1)), 12, 0, 7)
	wantEnds(t, made(t, laid(10, 1), laid(7, 2), laid(5, 0)), none, none, none)
	wantEnds(t, made(t, laid(10, 1), laid(7, 1), laid(5, 3), laid(3), laid(2, 0)), none, none, 3, 0, none)
}

// P22.1: at switches the nearest dead end counts, by its whole way: neither by the fewest segments, nor by the first or the last of Next, nor by the next segment's length.
func TestEndsOfSwitches(t *testing.T) {
	wantEnds(t, made(t, laid(10, 1, 2), laid(7), laid(5)), 5, 0, 0)
	wantEnds(t, made(t, laid(10, 1, 2), laid(5), laid(7)), 5, 0, 0)
	wantEnds(t, made(t, laid(10, 1, 2), laid(5), laid(5)), 5, 0, 0)
	wantEnds(t, made(t, laid(10, 1, 2), laid(9), laid(2, 3), laid(3, 4), laid(3)), 8, 0, 6, 3, 0)
	wantEnds(t, made(t, laid(10, 1, 2), laid(9), laid(2, 3), laid(3, 4), laid(4)), 9, 0, 7, 4, 0)
	wantEnds(t, made(t, laid(10, 1, 2), laid(9), laid(2, 3), laid(3, 4), laid(5)), 9, 0, 8, 5, 0)
	wantEnds(t, made(t, laid(10, 1, 2), laid(2, 3), laid(9), laid(3, 4), laid(3)), 8, 6, 0, 3, 0)
	// Both ways meet again.
	wantEnds(t, made(t, laid(10, 1, 2), laid(7, 3), laid(5, 3), laid(9)), 14, 9, 9, 0)
	// One of both never ends, or leads round and to the other one again.
	wantEnds(t, made(t, laid(10, 1, 2), laid(1, 1), laid(50)), 50, none, 0)
	wantEnds(t, made(t, laid(10, 1, 2), laid(50), laid(1, 2)), 50, 0, none)
	wantEnds(t, made(t, laid(10, 0, 1), laid(50)), 50, 0)
	wantEnds(t, made(t, laid(50), laid(10, 0, 1)), 0, 50)
	wantEnds(t, made(t, laid(1, 1), laid(2, 2), laid(3, 0, 3), laid(100)), 105, 103, 100, 0)
	wantEnds(t, made(t, laid(100), laid(3, 0, 3), laid(2, 1), laid(1, 2)), 0, 100, 103, 105)
}

// P22.1: the greatest lengths and as many segments as there may be, in both orders; the end of one lies nearer than that of all others.
func TestEndsGreat(t *testing.T) {
	const many = api.MaxSegments
	forward, backward, want := make([]track.Segment, many), make([]track.Segment, many), make([]int64, many)
	for i := range many {
		want[i] = int64(many-1-i) * api.MaxLength
		forward[i], backward[many-1-i] = laid(api.MaxLength, i+1), laid(api.MaxLength, many-2-i)
	}
	forward[many-1], backward[0] = laid(api.MaxLength), laid(api.MaxLength)
	wantEnds(t, made(t, forward...), want...)
	slices.Reverse(want)
	wantEnds(t, made(t, backward...), want...)
	backward[0].Next = []int{many - 1}
	for i := range want {
		want[i] = none
	}
	wantEnds(t, made(t, backward...), want...)
	// Each leads to the one dead end, or back by way of all others.
	for i := range many {
		backward[i], want[i] = laid(1, 0, max(i-1, 1)), api.MaxLength
	}
	backward[0], backward[1], want[0] = laid(api.MaxLength), laid(1, 0), 0
	backward[2].Next = []int{1}
	want[2] = api.MaxLength + 1
	wantEnds(t, made(t, backward...), want...)
}

// P22.1: the segments of a long track, in any order of their indices: as far as those that follow them are long together.
func TestEndsInAnyOrder(t *testing.T) {
	row := scatter(221)
	for range 300 {
		n := 2 + row.to(api.MaxSegments-1)
		order := make([]int, n)
		for i := range order {
			j := row.to(i + 1)
			order[i] = order[j]
			order[j] = i
		}
		segments, want, far := make([]track.Segment, n), make([]int64, n), int64(0)
		for i := n - 1; i >= 0; i-- {
			segments[order[i]] = laid(row.from(1, api.MaxLength))
			if i < n-1 {
				segments[order[i]].Next = []int{order[i+1]}
			}
			want[order[i]] = far
			far += segments[order[i]].Length
		}
		wantEnds(t, made(t, segments...), want...)
	}
}

// P22.1: neither pieces, nor groups, nor a segment's own length count.
func TestEndsOfLittle(t *testing.T) {
	row := scatter(222)
	for range 3000 {
		tr := row.some(t, 12)
		want := brake.Ends(tr)
		i := row.to(len(tr.Segments))
		tr.Groups = []track.Group{{Id: 5, Segment: i, Acc: 7, Slack: 9}}
		for i := range tr.Segments {
			tr.Segments[i].Pieces = []grade.Piece{{Grade: -5}}
		}
		wantEnds(t, tr, want...)
		tr.Segments[i].Length += 500
		if got := brake.Ends(tr); got[i] != want[i] {
			t.Fatalf("Ends of %v = %v; want %d for %d", tr.Segments, got, want[i], i)
		}
	}
}

// some is a valid track of the row, with lengths of at most longest.
func (s *scatter) some(t *testing.T, longest int) track.Track {
	t.Helper()
	n := 1 + s.to(8)
	segments := make([]track.Segment, n)
	for i := range segments {
		segments[i] = laid(int64(1 + s.to(longest)))
		for range s.to(4) {
			segments[i].Next = append(segments[i].Next, s.to(n))
		}
		slices.Sort(segments[i].Next)
		segments[i].Next = slices.Compact(segments[i].Next)
		segments[i].Next = segments[i].Next[:min(len(segments[i].Next), 2)]
	}
	return made(t, segments...)
}

// farthest is as far as any way goes that has no segment twice.
func farthest(tr track.Track) int64 {
	sum := int64(0)
	for _, s := range tr.Segments {
		sum += s.Length
	}
	return sum
}

// walked is how far it is from the end of a segment to a dead end, told step by step: which segments may end that far away.
func walked(tr track.Track, segment int) int64 {
	ending := [][]int{{segment}}
	for far := int64(0); far <= farthest(tr); far++ {
		if far > 0 {
			ending = append(ending, nil)
		}
		for next, s := range tr.Segments {
			if far < s.Length {
				continue
			}
			if slices.ContainsFunc(ending[far-s.Length], func(i int) bool { return tr.Follows(i, next) }) {
				ending[far] = append(ending[far], next)
			}
		}
		for _, i := range ending[far] {
			if len(tr.Segments[i].Next) == 0 {
				return far
			}
		}
	}
	return none
}

// P22.1: scattered tracks, step by step.
func TestEndsWalked(t *testing.T) {
	row := scatter(223)
	dead, loops, longer := 0, 0, 0
	for range 20000 {
		tr := row.some(t, 12)
		got := brake.Ends(tr)
		if len(got) != len(tr.Segments) {
			t.Fatalf("Ends of %v = %v", tr.Segments, got)
		}
		for i, far := range got {
			if want := walked(tr, i); far != want {
				t.Fatalf("Ends of %v = %v; want %d for %d", tr.Segments, got, want, i)
			}
			switch {
			case far == 0:
				dead++
			case far == none:
				loops++
			case far > 20:
				longer++
			}
		}
	}
	if dead < 10000 || loops < 10000 || longer < 1000 {
		t.Errorf("%d dead ends, %d segments that lead to none, and %d long ways", dead, loops, longer)
	}
}

// branches is a track whose first segment leads by two ways, of 17 and 15, to one of the length 9, which leads to a loop and to a dead end of the length 4.
func branches(t *testing.T) track.Track {
	t.Helper()
	return made(t, laid(10, 1, 2), laid(7, 3), laid(5, 3), laid(9, 4, 5), laid(6, 4), laid(4))
}

// P22.2: one route: where it ends, what follows it, and from where it is measured.
func TestFreeWrittenOut(t *testing.T) {
	one := made(t, laid(10))
	wantFree(t, one, set(0, []int{0}), 0, 10)
	wantFree(t, one, set(3, []int{0}), 0, 7)
	wantFree(t, one, set(10, []int{0}), 0, 0)
	wantFree(t, one, set(3, []int{0}), -3, 10)
	wantFree(t, one, set(3, []int{0}), 7, 0)
	wantFree(t, one, set(3, []int{0}), 8, -1)
	wantFree(t, one, set(3, []int{0}), 100, -93)
	wantNoFree(t, made(t, laid(10, 0)), set(3, []int{0}), 2)
	wantNoFree(t, made(t, laid(10, 0)), set(3, []int{0, 0, 0}), 2)
	tr := branches(t)
	wantEnds(t, tr, 18, 13, 13, 4, none, 0)
	wantFree(t, tr, set(0, []int{0}), 0, 28)
	wantFree(t, tr, set(4, []int{0}), 0, 24)
	wantFree(t, tr, set(4, []int{0}), 5, 19)
	wantFree(t, tr, set(4, []int{0, 1}), 5, 21)
	wantFree(t, tr, set(4, []int{0, 2}), 5, 19)
	wantFree(t, tr, set(4, []int{0, 1, 3}), 5, 21)
	wantFree(t, tr, set(4, []int{0, 1, 3, 5}), 5, 21)
	wantNoFree(t, tr, set(4, []int{0, 1, 3, 4}), 5)
	wantNoFree(t, tr, set(4, []int{0, 1, 3, 4, 4, 4, 4}), 5)
	wantFree(t, tr, set(2, []int{3}), 0, 11)
	wantFree(t, tr, set(2, []int{3, 5}), -2, 13)
	wantNoFree(t, tr, set(2, []int{4}), 0)
	wantFree(t, tr, set(2, []int{5}), 1, 1)
	// The same segment several times counts each time.
	round := made(t, laid(10, 0, 1), laid(3))
	wantFree(t, round, set(4, []int{0}), 0, 9)
	wantFree(t, round, set(4, []int{0, 0}), 0, 19)
	wantFree(t, round, set(4, []int{0, 0, 0, 1}), 0, 29)
}

// P22.2: of several routes the one from which a dead end is nearest counts, wherever it stands in the list; those that lead to none count only together.
func TestFreeOfSeveral(t *testing.T) {
	tr := branches(t)
	long, short := []int{0, 1, 3}, []int{0, 2}
	wantFree(t, tr, set(4, long, short), 5, 19)
	wantFree(t, tr, set(4, []int{0, 1}, []int{0, 2, 3, 5}), 5, 19)
	wantFree(t, tr, set(4, []int{0, 1, 3, 4}, []int{0, 2, 3, 4}, []int{0, 2, 3, 5}), 0, 24)
	wantFree(t, tr, set(4, []int{0, 1, 3, 4}, []int{0, 1, 3, 5}, []int{0, 2, 3, 4}), 0, 26)
	wantFree(t, tr, set(4, []int{0, 1, 3, 5}, []int{0, 2, 3, 4}), 0, 26)
	wantFree(t, tr, set(4, []int{0, 1, 3, 5}, []int{0, 2, 3, 4}), 26, 0)
	wantFree(t, tr, set(4, []int{0, 1, 3, 4}, []int{0, 1, 3, 5}), 27, -1)
	wantFree(t, tr, set(4, []int{0, 1, 3, 4}, []int{0, 1, 3, 5}), 40, -14)
	wantFree(t, tr, set(4, []int{0, 1, 3, 5}, []int{0, 2, 3, 5}), 40, -16)
	wantNoFree(t, tr, set(4, []int{0, 1, 3, 4}, []int{0, 2, 3, 4}), 0)
	// The first of Next is a short way now, the last one a longer one.
	other := made(t, laid(10, 1, 2), laid(5), laid(7))
	wantFree(t, other, set(4, []int{0, 1}, []int{0, 2}), 0, 11)
	wantFree(t, other, set(4, []int{0, 2}), 0, 13)
	// Not the route that ends first, and not the one behind which a dead end is nearest.
	third := made(t, laid(10, 1, 2), laid(2, 3), laid(6, 4), laid(20), laid(15))
	wantFree(t, third, set(0, []int{0, 1}, []int{0, 2}), 0, 31)
	fourth := made(t, laid(10, 1, 2), laid(2, 3), laid(12, 4), laid(20), laid(15))
	wantFree(t, fourth, set(0, []int{0, 1}, []int{0, 2}), 0, 32)
}

// P22.2: distances that do not fit into 64 bits are the nearest number that does.
func TestFreeGreat(t *testing.T) {
	one := made(t, laid(10))
	s := set(3, []int{0})
	for _, x := range [][2]int64{
		{least, most}, {least + 1, most}, {8 - most, most - 1}, {7 - most, most}, {6 - most, most}, {9 - most, most - 2},
		{most, 7 - most}, {most - 1, 8 - most}, {0, 7},
	} {
		wantFree(t, one, s, x[0], x[1])
	}
	end := set(10, []int{0})
	wantFree(t, one, end, most, -most)
	wantFree(t, one, end, -most, most)
	wantFree(t, one, end, least, most)
	// Both are too great by different amounts.
	tr := branches(t)
	wantFree(t, tr, set(4, []int{0, 1}, []int{0, 2}), least, most)
	wantFree(t, tr, set(4, []int{0, 1}, []int{0, 2}), 24-most, most)
	wantFree(t, tr, set(4, []int{0, 1}, []int{0, 2}), 25-most, most-1)
	// As far as a track goes.
	const many = api.MaxSegments
	far := make([]track.Segment, many)
	for i := range far {
		far[i] = laid(api.MaxLength, i+1)
	}
	far[many-1].Next = nil
	long := made(t, far...)
	wantFree(t, long, set(1, []int{0}), 0, many*api.MaxLength-1)
	wantFree(t, long, set(1, []int{0, 1, 2, 3, 4, 5, 6, 7, 8, 9, 10, 11}), -api.MaxPlace, many*api.MaxLength-1+api.MaxPlace)
	wantFree(t, long, set(api.MaxLength, []int{188, 189, 190, 191, 192, 193, 194, 195, 196, 197, 198, 199}), 1, 11*api.MaxLength-1)
}

// grown is a set of the row for a track, as far as it has grown.
func (s *scatter) grown(tr track.Track) route.Set {
	segment := s.to(len(tr.Segments))
	w := route.Begin(segment, s.from(0, tr.Segments[segment].Length))
	lo := -w.From
	for range s.to(6) {
		p := of(lo+s.from(0, 9), 0)
		p.Hi = p.Lo + s.from(0, 9)
		next, err := w.Grow(tr, p)
		if err != api.OK {
			return w
		}
		w, lo = next, p.Lo
	}
	return w
}

// expected is Free's answer by the chapter, with sums that cannot be too great.
func expected(tr track.Track, w route.Set, at int64) (int64, bool) {
	var all []int64
	for _, r := range w.List {
		far := walked(tr, r.Seg[r.N-1])
		if far == none {
			continue
		}
		sum := new(big.Int).Sub(big.NewInt(far-w.From), big.NewInt(at))
		for _, segment := range r.Seg[:r.N] {
			sum.Add(sum, big.NewInt(tr.Segments[segment].Length))
		}
		switch {
		case sum.IsInt64():
			all = append(all, sum.Int64())
		case sum.Sign() < 0:
			all = append(all, least)
		default:
			all = append(all, most)
		}
	}
	if len(all) == 0 {
		return 0, false
	}
	return slices.Min(all), true
}

// P22.2: scattered tracks and sets that have grown on them, from any position, against the chapter.
func TestFreeScattered(t *testing.T) {
	row := scatter(224)
	found, missing, several := 0, 0, 0
	for range 20000 {
		tr := row.some(t, 12)
		ends, w := brake.Ends(tr), row.grown(tr)
		for range 3 {
			at := row.from(-20, 60)
			if row.odds(3) {
				at = row.any64()
			}
			want, wantOk := expected(tr, w, at)
			got, ok := brake.Free(tr, ends, w, at)
			if got != want || ok != wantOk {
				t.Fatalf("Free of %v on %v from %d = %d, %t; want %d, %t", w, tr.Segments, at, got, ok, want, wantOk)
			}
			if !ok {
				missing++
				continue
			}
			found++
			if len(w.List) > 1 {
				several++
			}
		}
	}
	if found < 10000 || missing < 10000 || several < 3000 {
		t.Errorf("%d found, %d of them on several routes, and %d not", found, several, missing)
	}
}

// P22.3: the chapter's example, and how it goes on from there.
func TestPermittedExample(t *testing.T) {
	c := train(t, 2, 100)
	wantPermitted(t, c, 25, 10)
	free, speeds := int64(25), []int64{}
	for v := brake.Permitted(c, free); v > 2; {
		v -= 2
		speeds = append(speeds, v)
		free -= v
	}
	if !slices.Equal(speeds, []int64{8, 6, 4, 2}) || free != 5 {
		t.Errorf("the speeds are %v, and %d is left", speeds, free)
	}
	wantPermitted(t, c, 24, 9)
	wantPermitted(t, c, 26, 10)
	wantPermitted(t, c, 30, 10)
	wantPermitted(t, c, 31, 11)
}

// P22.3: all small ways and brakes: the square of the speed still fits, that of one more does not.
func TestPermittedSmall(t *testing.T) {
	for by := int64(1); by <= 40; by++ {
		c := train(t, by, api.MaxSpeed)
		for free := int64(0); free <= 2000; free++ {
			got := brake.Permitted(c, free)
			if got < 0 || got*got > 2*by*free || (got+1)*(got+1) <= 2*by*free {
				t.Fatalf("Permitted of %d with a Brake of %d = %d", free, by, got)
			}
		}
	}
}

// P22.3: behind a dead end, and at it, the train has to stand.
func TestPermittedNone(t *testing.T) {
	for _, by := range []int64{1, 2, 50000, api.MaxAccel} {
		for _, fastest := range []int64{1, 5000000, api.MaxSpeed} {
			for _, free := range []int64{0, -1, -2, -25, -1 << 40, -1 << 62, least + 1, least} {
				wantPermitted(t, train(t, by, fastest), free, 0)
			}
		}
	}
}

// P22.3: at MaxSpeed and beside it, and far beyond, where the product does not fit into 64 bits.
func TestPermittedAtMaxSpeed(t *testing.T) {
	for _, fastest := range []int64{2, 3, 10, 11, 4999999, 5000000, api.MaxSpeed - 1, api.MaxSpeed} {
		for _, by := range []int64{1, 2, 3, 50000, api.MaxAccel} {
			c := train(t, by, fastest)
			// The least way on which a train stops from its MaxSpeed.
			free := (fastest*fastest + 2*by - 1) / (2 * by)
			wantPermitted(t, c, free, fastest)
			wantPermitted(t, c, free+1, fastest)
			for _, far := range []int64{2 * free, 100*free + 1000000000, 1 << 62, most - 1, most} {
				wantPermitted(t, c, far, fastest)
			}
			if got := brake.Permitted(c, free-1); got >= fastest || got < 0 {
				t.Errorf("Permitted of %d with a Brake of %d and a MaxSpeed of %d = %d", free-1, by, fastest, got)
			}
		}
	}
	wantPermitted(t, train(t, 1, 1), 0, 0)
	wantPermitted(t, train(t, 1, 1), 1, 1)
	wantPermitted(t, train(t, 1, 1), 1000, 1)
	wantPermitted(t, train(t, 2, 9), 25, 9)
	wantPermitted(t, train(t, 2, 10), 25, 10)
	wantPermitted(t, train(t, 2, 11), 25, 10)
	// The products are 2^64, 2^48, and 2^21 or 2 less than 2^48.
	wantPermitted(t, train(t, api.MaxAccel, api.MaxSpeed), 1<<43, api.MaxSpeed)
	wantPermitted(t, train(t, api.MaxAccel, api.MaxSpeed), 1<<27, api.MaxSpeed)
	wantPermitted(t, train(t, api.MaxAccel, api.MaxSpeed), 1<<27-1, api.MaxSpeed-1)
	wantPermitted(t, train(t, 1, api.MaxSpeed), 1<<47, api.MaxSpeed)
	wantPermitted(t, train(t, 1, api.MaxSpeed), 1<<47-1, api.MaxSpeed-1)
}

// P22.3: scattered ways, against the chapter by numbers of any length; nothing else of the configuration counts.
func TestPermittedScattered(t *testing.T) {
	row := scatter(225)
	limited, free := 0, 0
	for range 50000 {
		by, fastest, way := row.from(1, api.MaxAccel)>>row.to(20), row.from(1, api.MaxSpeed)>>row.to(24), row.any64()
		c := train(t, max(by, 1), max(fastest, 1))
		product := new(big.Int).Mul(big.NewInt(2*c.Brake), big.NewInt(max(way, 0)))
		root := product.Sqrt(product)
		want := c.MaxSpeed
		if root.Cmp(big.NewInt(want)) < 0 {
			want = root.Int64()
			free++
		} else {
			limited++
		}
		wantPermitted(t, c, way, want)
		wantPermitted(t, conf.Config{Brake: c.Brake, MaxSpeed: c.MaxSpeed}, way, want)
	}
	if limited < 10000 || free < 10000 {
		t.Errorf("%d limited, %d not", limited, free)
	}
}

// The chapter's conclusion: a train whose speed is permitted, and decreases by Brake in each cycle from the next one on, travels at most as far as the way is free.
func TestPermittedStops(t *testing.T) {
	row := scatter(226)
	share := 0.0
	for range 20000 {
		c := train(t, max(1, row.from(1, api.MaxAccel)>>row.to(20)), api.MaxSpeed)
		way := row.from(0, 1<<40) >> row.to(40)
		speed := brake.Permitted(c, way)
		// It would brake for more than 2^24 cycles otherwise.
		if speed/c.Brake > 10000 {
			continue
		}
		travelled := int64(0)
		for v := speed - c.Brake; v > 0; v -= c.Brake {
			travelled += v
		}
		if travelled > way {
			t.Fatalf("a train with a speed of %d, of which %d is permitted, travels %d", speed, way, travelled)
		}
		if way > 0 && speed < c.MaxSpeed {
			share = max(share, float64(travelled)/float64(way))
		}
	}
	if share < 0.99 {
		t.Errorf("a train travels %f of its way at most", share)
	}
}

// The chapter's conclusion on a track: a train somewhere on one of its routes, in front of all of which it brakes, stops ahead of each dead end of the way that it takes.
func TestStopsAheadOfDeadEnd(t *testing.T) {
	row := scatter(227)
	stopped, never := 0, 0
	for range 20000 {
		tr := row.some(t, 12)
		c := train(t, 1+int64(row.to(3)), 100)
		w := row.grown(tr)
		r := w.List[row.to(len(w.List))]
		// It is at most at its front, and on its route.
		front := row.from(-w.From, w.End(tr, r))
		speed := c.MaxSpeed
		free, ok := brake.Free(tr, brake.Ends(tr), w, front)
		if ok {
			speed = brake.Permitted(c, free)
		}
		x, end, last := front, w.End(tr, r), r.Seg[r.N-1]
		for v := speed - c.Brake; v > 0; v -= c.Brake {
			x += v
			for x > end {
				next := tr.Segments[last].Next
				if len(next) == 0 {
					t.Fatalf("a train at %d with a speed of %d, of which %d, %t is free, goes beyond %d on %v", front, speed, free, ok, end, tr.Segments)
				}
				last = next[row.to(len(next))]
				end += tr.Segments[last].Length
			}
		}
		if ok {
			stopped++
		} else {
			never++
		}
	}
	if stopped < 5000 || never < 2000 {
		t.Errorf("%d trains stopped, %d had no dead end ahead", stopped, never)
	}
}

// wild is a configuration of any numbers.
func (s *scatter) wild() conf.Config {
	var c conf.Config
	v := reflect.ValueOf(&c).Elem()
	for i := range v.NumField() {
		v.Field(i).SetInt(s.any64())
	}
	return c
}

// wildTrack is a track of any numbers.
func (s *scatter) wildTrack() track.Track {
	var tr track.Track
	for range s.to(6) {
		seg := track.Segment{Length: s.any64()}
		if s.odds(2) {
			seg.Length = s.from(-3, 3)
		}
		for range s.to(4) {
			seg.Next = append(seg.Next, s.to(6))
			if s.odds(3) {
				seg.Next = append(seg.Next, int(s.any64()), -1)
			}
		}
		tr.Segments = append(tr.Segments, seg)
	}
	return tr
}

// wildSet is a set of any numbers.
func (s *scatter) wildSet() route.Set {
	w := route.Set{From: s.any64()}
	for range s.to(5) {
		r := route.Route{N: s.to(14)}
		if s.odds(4) {
			r.N = int(s.any64())
		}
		for i := range r.Seg {
			r.Seg[i] = s.to(6)
			if s.odds(4) {
				r.Seg[i] = int(s.any64())
			}
		}
		w.List = append(w.List, r)
	}
	return w
}

// wildEnds are any numbers.
func (s *scatter) wildEnds() []int64 {
	var ends []int64
	for range s.to(8) {
		ends = append(ends, s.any64())
	}
	return ends
}

// P1: any arguments end, without a panic, and twice alike; where there is no dead end, there is nothing else.
func TestNotValid(t *testing.T) {
	row := scatter(228)
	found, missing := 0, 0
	for range 100000 {
		tr, w, ends, at := row.wildTrack(), row.wildSet(), row.wildEnds(), row.any64()
		got := brake.Ends(tr)
		if len(got) != len(tr.Segments) {
			t.Fatalf("Ends of %v = %v", tr.Segments, got)
		}
		wantEnds(t, tr, got...)
		for _, e := range [][]int64{got, ends, nil, {}, {0}, {-1, -2, least, most}} {
			free, ok := brake.Free(tr, e, w, at)
			again, okAgain := brake.Free(tr, e, w, at)
			if free != again || ok != okAgain || !ok && free != 0 {
				t.Fatalf("Free of %v on %v from %d = %d, %t, then %d, %t", w, tr.Segments, at, free, ok, again, okAgain)
			}
			if ok {
				found++
			} else {
				missing++
			}
			brake.Free(track.Track{}, e, w, at)
		}
		c := row.wild()
		wantPermitted(t, c, at, brake.Permitted(c, at))
	}
	if found < 10000 || missing < 10000 {
		t.Errorf("%d found, %d not", found, missing)
	}
}

// P1: tracks that are too great, or whose lengths are negative all around, end soon, too.
func TestEndsOfGreatTracks(t *testing.T) {
	var forward, round []track.Segment
	for i := range 3000 {
		forward = append(forward, laid(2, i+1))
		round = append(round, laid(-1, (i+1)%3000, 3000))
	}
	forward[2999].Next = nil
	round = append(round, laid(most, 0), laid(0))
	round[0].Next = append(round[0].Next, 3001)
	if got := brake.Ends(track.Track{Segments: forward}); len(got) != 3000 || got[0] != 5998 {
		t.Errorf("Ends of 3000 segments = %d of them, the first one is %d", len(got), got[0])
	}
	if got := brake.Ends(track.Track{Segments: round}); len(got) != 3002 {
		t.Errorf("Ends of 3002 segments = %d of them", len(got))
	}
	if got := brake.Ends(track.Track{}); len(got) != 0 {
		t.Errorf("Ends of no track = %v", got)
	}
}

// The document's rules: nil and empty lists are the same.
func TestEmptyLists(t *testing.T) {
	for _, next := range [][]int{nil, {}} {
		tr := made(t, laid(10, 1), track.Segment{Length: 7, Pieces: []grade.Piece{{}}, Next: next})
		wantEnds(t, tr, 7, 0)
		wantFree(t, tr, set(3, []int{0}), 2, 12)
		for _, list := range [][]route.Route{nil, {}} {
			wantNoFree(t, tr, route.Set{List: list}, 0)
			wantNoFree(t, tr, route.Set{From: 3, List: list}, 5)
		}
	}
}

// The document's rules: neither the lists of an argument nor what lies behind them are changed, and no result shares memory with another one.
func TestArguments(t *testing.T) {
	row := scatter(229)
	for range 2000 {
		tr := row.some(t, 12)
		w := row.grown(tr)
		for i := range tr.Segments {
			next := tr.Segments[i].Next
			tr.Segments[i].Next = append(next, 7, 8, 9)[:len(next)]
		}
		tr.Segments = append(tr.Segments, laid(5, 1), laid(6))[:len(tr.Segments)]
		w.List = append(w.List, route.Route{N: 1}, route.Route{N: 2})[:len(w.List)]
		kept, keptList := copied(tr), slices.Clone(w.List[:cap(w.List)])
		first, ends := brake.Ends(tr), brake.Ends(tr)
		for i := range first[:cap(first)] {
			first[:cap(first)][i] = 77
		}
		wantEnds(t, tr, ends...)
		long := append(slices.Clone(ends), 77, 78)
		free, ok := brake.Free(tr, long[:len(ends)], w, 3)
		want, wantOk := expected(tr, w, 3)
		if free != want || ok != wantOk {
			t.Fatalf("Free of %v on %v = %d, %t; want %d, %t", w, tr.Segments, free, ok, want, wantOk)
		}
		if !slices.Equal(long, append(ends, 77, 78)) || !slices.Equal(w.List[:cap(w.List)], keptList) || !reflect.DeepEqual(copied(tr), kept) {
			t.Fatalf("an argument has changed")
		}
	}
}

// copied is a track that shares nothing with another one, with what lies behind its lists.
func copied(tr track.Track) track.Track {
	segments := slices.Clone(tr.Segments[:cap(tr.Segments)])
	for i, s := range segments {
		segments[i].Pieces = slices.Clone(s.Pieces[:cap(s.Pieces)])
		segments[i].Next = slices.Clone(s.Next[:cap(s.Next)])
	}
	return track.Track{Segments: segments, Groups: slices.Clone(tr.Groups[:cap(tr.Groups)])}
}
