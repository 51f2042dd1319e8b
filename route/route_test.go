package route_test

import (
	"cmp"
	"math"
	"reflect"
	"slices"
	"testing"

	"odograph/api"
	"odograph/grade"
	"odograph/route"
	"odograph/span"
	"odograph/track"
)

const (
	least = math.MinInt64
	most  = math.MaxInt64
)

// scatter is a row of numbers, always the same one.
type scatter uint64

func (s *scatter) next() uint64 {
	*s = *s*6364136223846793005 + 1442695040888963407
	return uint64(*s ^ *s>>31)
}

// to is a number of the row from 0 to n - 1.
func (s *scatter) to(n int) int { return int(s.next() >> 8 % uint64(n)) }

// any64 is a number of the row that is near an edge rather often.
func (s *scatter) any64() int64 {
	edges := []int64{least, -1 << 40, -1, 0, 1, 2, 5, 11, 12, 13, 199, 200, 1 << 20, 1 << 40, most}
	if s.to(3) > 0 {
		return edges[s.to(len(edges))] + int64(s.to(3)) - 1
	}
	return int64(s.next()) >> s.to(64)
}

// laid is a segment of a length with one piece of the grade 0, and those that follow it.
func laid(length int64, next ...int) track.Segment {
	return track.Segment{Length: length, Pieces: []grade.Piece{{}}, Next: next}
}

// on is a track of these segments.
func on(l ...track.Segment) track.Track { return track.Track{Segments: l} }

// row is a track of n segments of the length 10, each followed by the next one.
func row(n int) track.Track {
	var tr track.Track
	for i := range n {
		tr.Segments = append(tr.Segments, laid(10, i+1))
	}
	tr.Segments[n-1].Next = nil
	return tr
}

// fork is a track with a switch behind segment 0. From 4 on, its routes 0, 0 1, 0 2 and 0 1 3 end at 6, 11, 12 and 14; the last two of them at dead ends.
func fork() track.Track { return on(laid(10, 1, 2), laid(5, 3), laid(6), laid(3)) }

// both is a track with two segments of the length 10, each followed by both.
func both() track.Track { return on(laid(10, 0, 1), laid(10, 0, 1)) }

// fan is a track on which segment 0, through segments of the length 1, leads to dead ends of these lengths.
func fan(lengths ...int64) track.Track {
	tr := on(laid(1))
	ends := []int{0}
	for len(ends) < len(lengths) {
		n := len(tr.Segments)
		tr.Segments[ends[0]].Next = []int{n, n + 1}
		tr.Segments = append(tr.Segments, laid(1), laid(1))
		ends = append(ends[1:], n, n+1)
	}
	for i, end := range ends {
		tr.Segments[end].Length = lengths[i]
	}
	return tr
}

// repeated is n times the same number.
func repeated(n int, x int64) []int64 { return slices.Repeat([]int64{x}, n) }

// path is the route of these segments.
func path(segments ...int) route.Route {
	r := route.Route{N: len(segments)}
	copy(r.Seg[:], segments)
	return r
}

// set is the set of the routes of these segments.
func set(from int64, paths ...[]int) route.Set {
	s := route.Set{From: from}
	for _, p := range paths {
		s.List = append(s.List, path(p...))
	}
	return s
}

// sameSet tells whether two sets are the same; nil and empty lists are.
func sameSet(a, b route.Set) bool { return a.From == b.From && slices.Equal(a.List, b.List) }

// wantGrow is Grow's answer written out.
func wantGrow(t *testing.T, tr track.Track, s route.Set, lo, hi int64, want api.Errno, grown route.Set) {
	t.Helper()
	if got, err := s.Grow(tr, span.Span{Lo: lo, Hi: hi}); err != want || !sameSet(got, grown) {
		t.Errorf("Grow of %v to %d, %d on %v = %v, %d; want %v, %d", s, lo, hi, tr.Segments, got, err, grown, want)
	}
}

// wantPaths is Grow's answer written out, if there is one.
func wantPaths(t *testing.T, tr track.Track, s route.Set, lo, hi int64, paths ...[]int) {
	t.Helper()
	wantGrow(t, tr, s, lo, hi, api.OK, set(s.From, paths...))
}

// wantNone is Grow's answer written out, if it is an error.
func wantNone(t *testing.T, tr track.Track, s route.Set, lo, hi int64, want api.Errno) {
	t.Helper()
	wantGrow(t, tr, s, lo, hi, want, route.Set{})
}

// valid ends a test whose track is not valid.
func valid(t *testing.T, tr track.Track) {
	t.Helper()
	if err, i := tr.Check(); err != api.OK {
		t.Fatalf("Check of %v = %d, %d", tr, err, i)
	}
}

// P14.1: a set of one segment alone.
func TestBegin(t *testing.T) {
	for _, segment := range []int{0, 1, 7, 199} {
		for _, from := range []int64{0, 1, 4, 1 << 40} {
			want := route.Set{From: from, List: []route.Route{{N: 1, Seg: [12]int{segment}}}}
			if got := route.Begin(segment, from); !sameSet(got, want) {
				t.Errorf("Begin(%d, %d) = %v; want %v", segment, from, got, want)
			}
		}
	}
}

// P14.1: a path of each length.
func TestPath(t *testing.T) {
	all := []int{5, 0, 0, 199, 3, 3, 17, 0, 1, 2, 9, 0}
	for n := 1; n <= len(all); n++ {
		if got := path(all[:n]...).Path(); !slices.Equal(got, all[:n]) {
			t.Errorf("Path of %v = %v", all[:n], got)
		}
	}
}

// P14.1: ends written out.
func TestEnd(t *testing.T) {
	greatest := on(laid(1<<40, 0))
	for _, c := range []struct {
		tr       track.Track
		from     int64
		segments []int
		want     int64
	}{
		{fork(), 4, []int{0}, 6},
		{fork(), 4, []int{0, 1}, 11},
		{fork(), 4, []int{0, 2}, 12},
		{fork(), 4, []int{0, 1, 3}, 14},
		{fork(), 0, []int{0}, 10},
		{fork(), 10, []int{0}, 0},
		{fork(), 10, []int{0, 2}, 6},
		{fork(), 2, []int{1, 3}, 6},
		{both(), 3, []int{1, 1, 0, 1}, 37},
		{row(12), 0, []int{0, 1, 2, 3, 4, 5, 6, 7, 8, 9, 10, 11}, 120},
		{greatest, 0, []int{0, 0, 0, 0, 0, 0, 0, 0, 0, 0, 0, 0}, 12 << 40},
		{greatest, 1 << 40, []int{0, 0, 0, 0, 0, 0, 0, 0, 0, 0, 0, 0}, 11 << 40},
		{greatest, 1 << 40, []int{0}, 0},
	} {
		valid(t, c.tr)
		if got := set(c.from, c.segments).End(c.tr, path(c.segments...)); got != c.want {
			t.Errorf("End of %v from %d = %d; want %d", c.segments, c.from, got, c.want)
		}
		if got := route.Begin(c.segments[0], c.from).End(c.tr, path(c.segments...)); got != c.want {
			t.Errorf("End of %v from %d, of a set without it, = %d; want %d", c.segments, c.from, got, c.want)
		}
	}
}

// wantHas is Has' answer written out.
func wantHas(t *testing.T, s route.Set, want bool, segments ...int) {
	t.Helper()
	if got := s.Has(segments); got != want {
		t.Errorf("Has(%v) of %v = %t; want %t", segments, s, got, want)
	}
}

// P14.1: a path agrees as far as both it and a route extend.
func TestHas(t *testing.T) {
	s := set(4, []int{0, 1, 3}, []int{0, 2})
	for _, p := range [][]int{{}, {0}, {0, 1}, {0, 2}, {0, 1, 3}, {0, 2, 7}, {0, 2, -1, 8, 9}, {0, 1, 3, 0}, {0, 1, 3, 1, 1, 1, 1, 1, 1, 1, 1, 1, 1, 1}} {
		wantHas(t, s, true, p...)
	}
	for _, p := range [][]int{{1}, {-1}, {0, 0}, {0, 3}, {2}, {3}, {0, 1, 2}, {0, 1, 0}, {1, 0}, {0, 3, 1}, {most}, {least, 0}, {0, 1, 2, 3}} {
		wantHas(t, s, false, p...)
	}
	wantHas(t, route.Begin(0, 4), true, 0, 5, 6, 7)
	wantHas(t, route.Begin(0, 4), false, 5, 0)
	wantHas(t, route.Begin(7, 4), true)
	wantHas(t, route.Set{}, false)
	wantHas(t, route.Set{}, false, 0)
	twelve := []int{0, 1, 2, 3, 4, 5, 6, 7, 8, 9, 10, 11}
	for n := range 13 {
		wantHas(t, set(0, twelve), true, twelve[:n]...)
	}
	wantHas(t, set(0, twelve), true, append(twelve, 99)...)
	wantHas(t, set(0, twelve), false, append(twelve[:11:11], 10, 99)...)
}

// agree tells by the chapter whether two lists are the same as far as both extend.
func agree(a, b []int) bool {
	for i := range a {
		if i < len(b) && a[i] != b[i] {
			return false
		}
	}
	return true
}

// P14.1: all short paths against each route, one by one.
func TestHasAll(t *testing.T) {
	sets := []route.Set{set(0, []int{0}), set(0, []int{1, 0}), set(0, []int{0, 0, 1}, []int{0, 1}), set(0, []int{2, 0, 1}, []int{2, 0, 2}, []int{2, 1})}
	paths := [][]int{{}}
	for i := 0; len(paths[i]) < 4; i++ {
		for segment := range 3 {
			paths = append(paths, append(slices.Clone(paths[i]), segment))
		}
	}
	for _, s := range sets {
		for _, p := range paths {
			wantHas(t, s, slices.ContainsFunc(s.List, func(r route.Route) bool { return agree(r.Path(), p) }), p...)
		}
	}
}

// P14.2: the chapter's example.
func TestGrowExample(t *testing.T) {
	wantPaths(t, on(laid(10, 1, 2), laid(20), laid(30)), route.Begin(0, 4), 7, 8, []int{0, 1}, []int{0, 2})
}

// P14.2: sets written out, at each end of a route and beside it.
func TestGrowWrittenOut(t *testing.T) {
	begin := route.Begin(0, 4)
	a, b, c := []int{0, 1}, []int{0, 2}, []int{0, 1, 3}
	wantPaths(t, fork(), begin, 0, 0, []int{0})
	wantPaths(t, fork(), begin, -4, 6, []int{0})
	wantPaths(t, fork(), begin, 6, 6, []int{0})
	wantPaths(t, fork(), begin, -4, -4, []int{0})
	wantPaths(t, fork(), begin, -4, 7, a, b)
	wantPaths(t, fork(), begin, 7, 7, a, b)
	wantPaths(t, fork(), begin, 11, 11, a, b)
	wantPaths(t, fork(), begin, 6, 12, c, b)
	wantPaths(t, fork(), begin, 12, 12, c, b)
	wantPaths(t, fork(), begin, 12, 13, c, b)
	wantPaths(t, fork(), begin, 12, 14, c, b)
	wantPaths(t, fork(), begin, 12, 15, c, b)
	wantPaths(t, fork(), begin, -4, most, c, b)
	wantPaths(t, fork(), begin, 13, 13, c)
	wantPaths(t, fork(), begin, 13, most, c)
	wantPaths(t, fork(), begin, 14, 14, c)
	wantPaths(t, fork(), begin, 14, 15, c)
	wantPaths(t, fork(), begin, 14, most, c)
	wantNone(t, fork(), begin, 15, 15, api.ErrLost)
	wantNone(t, fork(), begin, 15, most, api.ErrLost)
	wantNone(t, fork(), begin, most, most, api.ErrLost)
}

// P14.2: a route of the set is never made shorter, and one that need not be longer stays.
func TestGrowFurther(t *testing.T) {
	a, b, c := []int{0, 1}, []int{0, 2}, []int{0, 1, 3}
	wantPaths(t, fork(), set(4, a, b), -4, 0, a, b)
	wantPaths(t, fork(), set(4, a, b), 11, 11, a, b)
	wantPaths(t, fork(), set(4, a, b), 12, 12, c, b)
	wantPaths(t, fork(), set(4, a, b), 13, 13, c)
	wantPaths(t, fork(), set(4, c, b), -4, -4, c, b)
	wantPaths(t, fork(), set(4, c, b), 0, 12, c, b)
	wantPaths(t, fork(), set(4, c, b), 13, 14, c)
	wantPaths(t, fork(), set(4, c), 0, 12, c)
	wantPaths(t, fork(), set(4, b), 0, 12, b)
	wantPaths(t, fork(), set(4, b), 0, 13, b)
	wantNone(t, fork(), set(4, b), 13, 13, api.ErrLost)
	wantNone(t, fork(), set(4, c, b), 15, 20, api.ErrLost)
}

// P14.2: From is any point of the segment, and a set need not begin at segment 0.
func TestGrowFrom(t *testing.T) {
	wantPaths(t, fork(), route.Begin(0, 0), 0, 10, []int{0})
	wantPaths(t, fork(), route.Begin(0, 0), 10, 11, []int{0, 1}, []int{0, 2})
	wantNone(t, fork(), route.Begin(0, 0), -1, 5, api.ErrLost)
	wantPaths(t, fork(), route.Begin(0, 10), -10, 0, []int{0})
	wantPaths(t, fork(), route.Begin(0, 10), 0, 1, []int{0, 1}, []int{0, 2})
	wantNone(t, fork(), route.Begin(0, 10), -11, 0, api.ErrLost)
	wantPaths(t, fork(), route.Begin(1, 5), 0, 1, []int{1, 3})
	wantPaths(t, fork(), route.Begin(3, 1), 2, 9, []int{3})
	wantNone(t, fork(), route.Begin(3, 1), 3, 9, api.ErrLost)
	greatest := on(laid(1<<40, 0))
	twelve := make([]int, 12)
	wantPaths(t, greatest, route.Begin(0, 0), 0, 12<<40, twelve)
	wantPaths(t, greatest, route.Begin(0, 1<<40), -1<<40, 11<<40, twelve)
	wantPaths(t, greatest, route.Begin(0, 1<<40), -1<<40, 0, []int{0})
	wantPaths(t, greatest, route.Begin(0, 1<<40), 0, 1, []int{0, 0})
	wantNone(t, greatest, route.Begin(0, 0), 0, 12<<40+1, api.ErrMany)
	wantNone(t, greatest, route.Begin(0, 1<<40), 0, 11<<40+1, api.ErrMany)
}

// P14.2: a span that is not valid, or that begins before the routes, whatever else there is.
func TestGrowLost(t *testing.T) {
	for _, s := range []route.Set{route.Begin(0, 4), set(4, []int{0, 1}, []int{0, 2}), set(4, []int{0, 1, 3})} {
		for _, p := range []span.Span{{Lo: 1, Hi: 0}, {Lo: -4, Hi: -5}, {Lo: most, Hi: least}, {Lo: 0, Hi: least}, {Lo: most, Hi: most - 1}, {Lo: -5, Hi: 0}, {Lo: -5, Hi: -5}, {Lo: least, Hi: least}, {Lo: least, Hi: most}, {Lo: -5, Hi: most}} {
			wantNone(t, fork(), s, p.Lo, p.Hi, api.ErrLost)
		}
	}
	// It comes ahead of too many routes.
	wantNone(t, both(), route.Begin(0, 0), 100, 99, api.ErrLost)
	wantNone(t, both(), route.Begin(0, 0), -1, 1000, api.ErrLost)
	wantNone(t, both(), route.Begin(0, 0), 0, 1000, api.ErrMany)
	wantNone(t, fork(), route.Set{}, 0, 0, api.ErrLost)
	wantNone(t, fork(), route.Set{From: 4}, -4, 0, api.ErrLost)
}

// P14.2: MaxDepth segments are not too many, unless a route has to go on behind them.
func TestGrowDepth(t *testing.T) {
	twelve := []int{0, 1, 2, 3, 4, 5, 6, 7, 8, 9, 10, 11}
	for n := 1; n <= 12; n++ {
		wantPaths(t, row(20), route.Begin(0, 0), 0, int64(10*n), twelve[:n])
		wantPaths(t, row(n), route.Begin(0, 0), int64(10*n), most, twelve[:n])
		wantNone(t, row(n), route.Begin(0, 0), int64(10*n+1), most, api.ErrLost)
	}
	for _, hi := range []int64{121, 122, 130, 131, most} {
		wantNone(t, row(13), route.Begin(0, 0), 0, hi, api.ErrMany)
		wantNone(t, row(13), route.Begin(0, 0), hi, hi, api.ErrMany)
		wantNone(t, row(13), set(0, twelve), 0, hi, api.ErrMany)
		wantPaths(t, row(13), route.Begin(1, 0), 0, min(hi, 120), []int{1, 2, 3, 4, 5, 6, 7, 8, 9, 10, 11, 12})
		wantPaths(t, row(12), route.Begin(0, 0), 120, hi, twelve)
		wantPaths(t, row(12), set(0, twelve), 0, hi, twelve)
		wantNone(t, row(12), route.Begin(0, 0), 121, hi, api.ErrLost)
	}
	wantPaths(t, row(13), set(0, twelve), 0, 120, twelve)
	wantNone(t, on(laid(1, 0)), route.Begin(0, 0), 0, 13, api.ErrMany)
	wantNone(t, on(laid(1, 0)), route.Begin(0, 0), most, most, api.ErrMany)
	wantPaths(t, on(laid(1, 0)), route.Begin(0, 0), 0, 12, make([]int, 12))
}

// P14.2: one route that is too long is enough, whichever is tried first, and whether the other one is in the set or not.
func TestGrowDepthOfOne(t *testing.T) {
	for _, short := range []int64{1, 1000} {
		last := row(13)
		last.Segments[0].Next = []int{1, 13}
		last.Segments = append(last.Segments, laid(short))
		first := on(laid(10, 1, 2), laid(short), laid(10, 2))
		for _, tr := range []track.Track{last, first} {
			valid(t, tr)
			wantNone(t, tr, route.Begin(0, 0), 0, 121, api.ErrMany)
			wantNone(t, tr, route.Begin(0, 0), 121, 121, api.ErrMany)
		}
	}
	first := on(laid(10, 1, 2), laid(1), laid(10, 2))
	wantPaths(t, first, route.Begin(0, 0), 12, 120, []int{0, 2, 2, 2, 2, 2, 2, 2, 2, 2, 2, 2})
	wantPaths(t, first, route.Begin(0, 0), 11, 120, []int{0, 1}, []int{0, 2, 2, 2, 2, 2, 2, 2, 2, 2, 2, 2})
}

// P14.2: MaxRoutes routes are not too many.
func TestGrowMany(t *testing.T) {
	for n := 1; n <= 40; n++ {
		tr := fan(repeated(n, 1000)...)
		valid(t, tr)
		if n > 16 {
			wantNone(t, tr, route.Begin(0, 0), 0, 500, api.ErrMany)
			wantNone(t, tr, route.Begin(0, 0), 500, 5000, api.ErrMany)
			continue
		}
		s, err := route.Begin(0, 0).Grow(tr, span.Span{Lo: 0, Hi: 500})
		if err != api.OK || len(s.List) != n {
			t.Errorf("%d ways: %v, %d", n, s, err)
		}
		wantGrow(t, tr, s, 500, 5000, api.OK, s)
	}
	sixteen, err := route.Begin(1, 3).Grow(both(), span.Span{Lo: 0, Hi: 47})
	if err != api.OK || len(sixteen.List) != 16 {
		t.Errorf("%v, %d", sixteen, err)
	}
	wantNone(t, both(), route.Begin(1, 3), 0, 48, api.ErrMany)
	wantNone(t, both(), sixteen, 0, 48, api.ErrMany)
	wantGrow(t, both(), sixteen, -3, 47, api.OK, sixteen)
}

// P14.2: what ends before the span's Lo does not count to the routes.
func TestGrowManyDropped(t *testing.T) {
	for short := range 30 {
		for long := range 20 {
			if short+long == 0 {
				continue
			}
			tr := fan(append(repeated(short, 100), repeated(long, 1000)...)...)
			valid(t, tr)
			for _, p := range []span.Span{{Lo: 200, Hi: 300}, {Lo: 200, Hi: 5000}} {
				got, err := route.Begin(0, 0).Grow(tr, p)
				switch {
				case long == 0:
					wantNone(t, tr, route.Begin(0, 0), p.Lo, p.Hi, api.ErrLost)
				case long > 16:
					wantNone(t, tr, route.Begin(0, 0), p.Lo, p.Hi, api.ErrMany)
				case err != api.OK || len(got.List) != long:
					t.Errorf("%d ways, and %d that are too short: %v, %d", long, short, got, err)
				}
			}
			if short+long > 16 {
				wantNone(t, tr, route.Begin(0, 0), 50, 300, api.ErrMany)
			}
		}
	}
}

// P14.2: the order is by segments, as numbers, and not by how many there are.
func TestGrowOrder(t *testing.T) {
	tr := on(laid(10, 0, 1), laid(30))
	wantPaths(t, tr, route.Begin(0, 0), 5, 30, []int{0, 0, 0}, []int{0, 0, 1}, []int{0, 1})
	wantPaths(t, tr, route.Begin(0, 0), 5, 41, []int{0, 0, 0, 0, 0}, []int{0, 0, 0, 0, 1}, []int{0, 0, 0, 1}, []int{0, 0, 1}, []int{0, 1})
	twelve := row(13)
	twelve.Segments[0].Next = []int{2, 11}
	wantPaths(t, twelve, route.Begin(0, 0), 5, 25, []int{0, 2, 3}, []int{0, 11, 12})
	twelve.Segments[2].Next = []int{9, 10}
	wantPaths(t, twelve, route.Begin(0, 0), 5, 25, []int{0, 2, 9}, []int{0, 2, 10}, []int{0, 11, 12})
	// By N alone only where one route begins the other, which no set that Grow returned has.
	loop := []int{0, 0, 0}
	wantPaths(t, both(), set(0, loop[:3], loop[:1], loop[:2]), 0, 5, loop[:1], loop[:2], loop[:3])
	// The ways part, and meet again: they stay different routes.
	meet := on(laid(10, 1, 2), laid(5, 3), laid(7, 3), laid(9))
	wantPaths(t, meet, route.Begin(0, 0), 18, 19, []int{0, 1, 3}, []int{0, 2, 3})
	wantPaths(t, meet, route.Begin(0, 0), 25, 26, []int{0, 2, 3})
}

// end is the position at which a way ends, by the chapter.
func end(tr track.Track, from int64, way []int) int64 {
	at := -from
	for _, segment := range way {
		at += tr.Segments[segment].Length
	}
	return at
}

// ways are all ways of at most MaxDepth segments that begin with one.
func ways(tr track.Track, way []int) [][]int {
	all := [][]int{way}
	if len(way) == api.MaxDepth {
		return all
	}
	for _, next := range tr.Segments[way[len(way)-1]].Next {
		all = append(all, ways(tr, append(slices.Clone(way), next))...)
	}
	return all
}

// longer tells whether a way is longer than necessary for not ending before hi, if its first n segments are given.
func longer(tr track.Track, from int64, way []int, n int, hi int64) bool {
	for k := n; k < len(way); k++ {
		if end(tr, from, way[:k]) >= hi {
			return true
		}
	}
	return false
}

// grown is Grow's answer by the chapter: of all ways those which it takes.
func grown(tr track.Track, s route.Set, p span.Span) (route.Set, api.Errno) {
	if p.Hi < p.Lo || p.Lo < -s.From {
		return route.Set{}, api.ErrLost
	}
	taken := map[route.Route]int{}
	tooLong := false
	for _, r := range s.List {
		for _, way := range ways(tr, r.Seg[:r.N]) {
			e := end(tr, s.From, way)
			dead := len(tr.Segments[way[len(way)-1]].Next) == 0
			if longer(tr, s.From, way, r.N, p.Hi) {
				continue
			}
			tooLong = tooLong || e < p.Hi && !dead && len(way) == 12
			if (e >= p.Hi || dead) && e >= p.Lo {
				taken[path(way...)]++
			}
		}
	}
	if tooLong || len(taken) > 16 {
		return route.Set{}, api.ErrMany
	}
	if len(taken) == 0 {
		return route.Set{}, api.ErrLost
	}
	want := route.Set{From: s.From}
	for r := range taken {
		want.List = append(want.List, r)
	}
	slices.SortFunc(want.List, ahead)
	return want, api.OK
}

// ahead compares two routes by the chapter: by the first different element of Seg, then by N.
func ahead(a, b route.Route) int {
	for i := range a.Seg {
		if a.Seg[i] != b.Seg[i] {
			return cmp.Compare(a.Seg[i], b.Seg[i])
		}
	}
	return cmp.Compare(a.N, b.N)
}

// some is a valid track of the row, with lengths of at most longest.
func (s *scatter) some(longest int) track.Track {
	n := 1 + s.to(7)
	var tr track.Track
	for i := range n {
		seg := track.Segment{Length: int64(1 + s.to(longest))}
		for from := 0; from < int(seg.Length) && len(seg.Pieces) < 5; from += 1 + s.to(longest) {
			seg.Pieces = append(seg.Pieces, grade.Piece{From: int64(from), Grade: int64(s.to(41)) - 20})
		}
		for range s.to(4) {
			seg.Next = append(seg.Next, (i+s.to(n))%n)
		}
		slices.Sort(seg.Next)
		seg.Next = slices.Compact(seg.Next)
		seg.Next = seg.Next[:min(len(seg.Next), 2)]
		tr.Segments = append(tr.Segments, seg)
	}
	for i := range s.to(6) {
		g := track.Group{Id: 3*i + 1, Segment: s.to(n)}
		g.Offset = int64(s.to(int(tr.Segments[g.Segment].Length) + 1))
		tr.Groups = append(tr.Groups, g)
	}
	return tr
}

// begin is a set of the row that Begin returns.
func (s *scatter) begin(tr track.Track) route.Set {
	segment := s.to(len(tr.Segments))
	return route.Begin(segment, int64(s.to(int(tr.Segments[segment].Length)+1)))
}

// near is a span of the row near the ends of the routes of a set.
func (s *scatter) near(tr track.Track, at route.Set) span.Span {
	e := end(tr, at.From, at.List[s.to(len(at.List))].Path())
	lo := e + int64(s.to(12)) - 8
	if s.to(3) > 0 {
		lo = max(lo, -at.From)
	}
	return span.Span{Lo: lo, Hi: lo + int64(s.to(12)) - int64(s.to(20)/19)}
}

// P14.2: scattered tracks, and sets that grow step by step, against the chapter.
func TestGrowScattered(t *testing.T) {
	row := scatter(141)
	seen, many := map[api.Errno]int{}, map[int]int{}
	for range 3000 {
		tr := row.some(9)
		valid(t, tr)
		s := row.begin(tr)
		for range 6 {
			p := row.near(tr, s)
			want, err := grown(tr, s, p)
			wantGrow(t, tr, s, p.Lo, p.Hi, err, want)
			seen[err]++
			many[len(want.List)]++
			if err == api.OK {
				s = want
			}
		}
	}
	for _, e := range []api.Errno{api.OK, api.ErrLost, api.ErrMany} {
		if seen[e] < 500 {
			t.Errorf("%d have the error %d", seen[e], e)
		}
	}
	for n := range 17 {
		if many[n] < 30 {
			t.Errorf("%d sets have %d routes", many[n], n)
		}
	}
}

// The chapter's words on sets: what holds for each set that Grow returns.
func TestGrownSets(t *testing.T) {
	row := scatter(142)
	for range 20000 {
		tr := row.some(9)
		s := row.begin(tr)
		for range 8 {
			p := row.near(tr, s)
			next, err := s.Grow(tr, p)
			if err != api.OK {
				continue
			}
			if next.From != s.From || len(next.List) > 16 || !slices.IsSortedFunc(next.List, ahead) {
				t.Fatalf("Grow of %v to %v = %v", s, p, next)
			}
			for i, r := range next.List {
				if i > 0 && r == next.List[i-1] || !isRoute(tr, r) || r.Seg[0] != s.List[0].Seg[0] || !s.Has(r.Path()) || next.End(tr, r) < p.Lo {
					t.Fatalf("Grow of %v to %v = %v, with %v", s, p, next, r)
				}
			}
			s = next
		}
	}
}

// isRoute tells whether r is a route of a track.
func isRoute(tr track.Track, r route.Route) bool {
	if r.N < 1 || r.N > 12 {
		return false
	}
	for i, segment := range r.Seg {
		if i >= r.N && segment != 0 || i > 0 && i < r.N && !tr.Follows(r.Seg[i-1], segment) {
			return false
		}
	}
	return true
}

// wantPlaces is Places' answer written out.
func wantPlaces(t *testing.T, tr track.Track, s route.Set, group int, want ...int64) {
	t.Helper()
	if got := s.Places(tr, group); !slices.Equal(got, want) {
		t.Errorf("Places of %d on %v = %v; want %v", group, s, got, want)
	}
}

// P14.3: places written out.
func TestPlacesWrittenOut(t *testing.T) {
	tr := fork()
	tr.Groups = []track.Group{{Id: 1, Segment: 0, Offset: 4}, {Id: 3, Segment: 0, Offset: 0}, {Id: 4, Segment: 0, Offset: 10}, {Id: 7, Segment: 1, Offset: 2, Acc: 9, Slack: 8}, {Id: 8, Segment: 2, Offset: 6}, {Id: 9, Segment: 3, Offset: 1}}
	valid(t, tr)
	for _, s := range []route.Set{route.Begin(0, 4), set(4, []int{0, 1}, []int{0, 2}), set(4, []int{0, 1, 3}, []int{0, 2}), set(4, []int{0, 2})} {
		wantPlaces(t, tr, s, 0, 0)
		wantPlaces(t, tr, s, 1, -4)
		wantPlaces(t, tr, s, 2, 6)
		for _, group := range []int{-1, 6, 7, math.MinInt, math.MaxInt, 400} {
			wantPlaces(t, tr, s, group)
		}
	}
	wantPlaces(t, tr, route.Begin(0, 4), 3)
	wantPlaces(t, tr, route.Begin(0, 4), 4)
	wantPlaces(t, tr, route.Begin(1, 5), 0)
	wantPlaces(t, tr, route.Begin(1, 5), 3, -3)
	wantPlaces(t, tr, route.Begin(1, 0), 3, 2)
	s := set(4, []int{0, 1, 3}, []int{0, 2})
	wantPlaces(t, tr, s, 3, 8)
	wantPlaces(t, tr, s, 4, 12)
	wantPlaces(t, tr, s, 5, 12)
	wantPlaces(t, tr, set(4, []int{0, 2}), 3)
	wantPlaces(t, tr, set(4, []int{0, 2}), 5)
	wantPlaces(t, fork(), s, 0)
}

// P14.3: the positions ascend, and each comes once, though the routes do not tell them so.
func TestPlacesOrder(t *testing.T) {
	tr := on(laid(10, 1, 2), laid(7, 3), laid(5, 3), laid(9, 3))
	tr.Groups = []track.Group{{Id: 1, Segment: 3, Offset: 4}, {Id: 2, Segment: 0, Offset: 5}}
	s := set(0, []int{0, 1, 3}, []int{0, 2, 3})
	wantPlaces(t, tr, s, 0, 19, 21)
	wantPlaces(t, tr, s, 1, 5)
	tr.Segments[1].Length = 5
	wantPlaces(t, tr, s, 0, 19)
	// On a loop the group is passed several times.
	wantPlaces(t, tr, set(2, []int{0, 1, 3, 3, 3}, []int{0, 2, 3, 3}), 0, 17, 26, 35)
	tr.Segments[1].Length = 7
	wantPlaces(t, tr, set(2, []int{0, 1, 3, 3, 3}, []int{0, 2, 3, 3}), 0, 17, 19, 26, 28, 37)
	loop := on(laid(1<<40, 0))
	loop.Groups = []track.Group{{Id: 65535, Offset: 1 << 40}}
	wantPlaces(t, loop, set(0, make([]int, 12)), 0, 1<<40, 2<<40, 3<<40, 4<<40, 5<<40, 6<<40, 7<<40, 8<<40, 9<<40, 10<<40, 11<<40, 12<<40)
	wantPlaces(t, loop, set(1<<40, []int{0, 0}), 0, 0, 1<<40)
}

// sets are sets of the row that Begin and Grow return.
func (s *scatter) sets(tr track.Track) []route.Set {
	all := []route.Set{s.begin(tr)}
	for range 4 {
		last := all[len(all)-1]
		if next, err := last.Grow(tr, s.near(tr, last)); err == api.OK {
			all = append(all, next)
		}
	}
	return all
}

// expectedPlaces is Places' answer by the chapter: each position is asked whether the group lies there.
func expectedPlaces(tr track.Track, s route.Set, group int) []int64 {
	var all []int64
	for x := int64(-20); x < 200; x++ {
		there := false
		for _, r := range s.List {
			for i := range r.N {
				there = there || r.Seg[i] == tr.Groups[group].Segment && end(tr, s.From, r.Seg[:i])+tr.Groups[group].Offset == x
			}
		}
		if there {
			all = append(all, x)
		}
	}
	return all
}

// P14.3: scattered groups against the chapter.
func TestPlacesScattered(t *testing.T) {
	row := scatter(143)
	many := map[int]int{}
	for range 3000 {
		tr := row.some(9)
		for _, s := range row.sets(tr) {
			for group := range tr.Groups {
				want := expectedPlaces(tr, s, group)
				wantPlaces(t, tr, s, group, want...)
				many[len(want)]++
			}
			wantPlaces(t, tr, s, len(tr.Groups))
			wantPlaces(t, tr, s, -1)
		}
	}
	for n := range 7 {
		if many[n] < 10 {
			t.Errorf("%d groups lie at %d positions", many[n], n)
		}
	}
}

// wantGrades is Grades' answer written out.
func wantGrades(t *testing.T, tr track.Track, s route.Set, lo, hi int64, want span.Span, there bool) {
	t.Helper()
	if got, ok := s.Grades(tr, span.Span{Lo: lo, Hi: hi}); ok != there || got != want {
		t.Errorf("Grades of %v at %d, %d on %v = %v, %t; want %v, %t", s, lo, hi, tr.Segments, got, ok, want, there)
	}
}

// P14.3: grades written out: those of both segments count where one ends and the next one begins.
func TestGradesWrittenOut(t *testing.T) {
	tr := fork()
	tr.Segments[0].Pieces = []grade.Piece{{From: 0, Grade: 5}, {From: 8, Grade: -3}}
	tr.Segments[1].Pieces = []grade.Piece{{From: 0, Grade: 20}, {From: 2, Grade: 21}}
	tr.Segments[2].Pieces = []grade.Piece{{From: 0, Grade: 10}}
	tr.Segments[3].Pieces = []grade.Piece{{From: 0, Grade: 1 << 20}, {From: 1, Grade: -1 << 20}, {From: 2, Grade: 0}}
	valid(t, tr)
	// From 4 on, the pieces begin at -4, 4, at 6, 8 on segment 1, at 6 on segment 2, and at 11, 12, 13 on segment 3.
	a, b := set(4, []int{0, 1, 3}, []int{0, 2}), route.Begin(0, 4)
	for _, c := range []struct {
		s               route.Set
		lo, hi          int64
		lowest, highest int64
	}{
		{b, -4, -4, 5, 5}, {b, -4, 3, 5, 5}, {b, 3, 3, 5, 5}, {b, 4, 4, -3, 5}, {b, 5, 5, -3, -3}, {b, 5, 6, -3, -3}, {b, 6, 6, -3, -3}, {b, 6, 7, -3, -3}, {b, 3, 100, -3, 5},
		{b, -100, -4, 5, 5}, {b, -100, 3, 5, 5}, {b, least, most, -3, 5}, {b, 6, most, -3, -3}, {b, least, -4, 5, 5},
		{a, -4, 3, 5, 5}, {a, 5, 5, -3, -3}, {a, 6, 6, -3, 20}, {a, 7, 7, 10, 20}, {a, 8, 8, 10, 21}, {a, 9, 10, 10, 21}, {a, 11, 11, 10, 1 << 20}, {a, 12, 12, -1 << 20, 1 << 20},
		{a, 13, 13, -1 << 20, 0}, {a, 14, 14, 0, 0}, {a, 14, most, 0, 0}, {a, 4, 6, -3, 20}, {a, 3, 5, -3, 5}, {a, least, most, -1 << 20, 1 << 20}, {a, 4, 7, -3, 20}, {a, 2, 8, -3, 21},
		{set(4, []int{0, 2}), 7, 12, 10, 10}, {set(4, []int{0, 2}), 12, 15, 10, 10}, {set(4, []int{0, 2}), 6, 6, -3, 10}, {set(4, []int{0, 1}), 11, 11, 21, 21},
		{route.Begin(1, 5), -5, -4, 20, 20}, {route.Begin(1, 5), 0, 0, 21, 21}, {route.Begin(1, 0), 0, 2, 20, 21},
	} {
		wantGrades(t, tr, c.s, c.lo, c.hi, span.Span{Lo: c.lowest, Hi: c.highest}, true)
	}
}

// P14.3: no positions: the span is not valid, or lies before or behind the routes.
func TestGradesNone(t *testing.T) {
	tr := fork()
	for i := range tr.Segments {
		tr.Segments[i].Pieces = []grade.Piece{{Grade: 7}}
	}
	for _, c := range []struct {
		s      route.Set
		lo, hi int64
	}{
		{route.Begin(0, 4), 7, 7}, {route.Begin(0, 4), 7, most}, {route.Begin(0, 4), -5, -5}, {route.Begin(0, 4), least, -5}, {route.Begin(0, 4), 1, 0}, {route.Begin(0, 4), most, least},
		{route.Begin(0, 4), 6, 5}, {route.Begin(0, 4), 7, 6}, {route.Begin(0, 4), -4, -5}, {set(4, []int{0, 1, 3}, []int{0, 2}), 15, 15}, {set(4, []int{0, 1, 3}, []int{0, 2}), 15, most},
		{set(4, []int{0, 2}), 13, 14}, {set(4, []int{0, 1, 3}), 12, 11}, {route.Set{}, 0, 0}, {route.Set{}, least, most}, {route.Begin(0, 0), -1, -1}, {route.Begin(0, 10), 1, 1},
	} {
		wantGrades(t, tr, c.s, c.lo, c.hi, span.Span{}, false)
	}
	wantGrades(t, tr, route.Begin(0, 4), 6, 7, span.At(7), true)
	wantGrades(t, tr, route.Begin(0, 4), -5, -4, span.At(7), true)
	wantGrades(t, tr, set(4, []int{0, 1, 3}, []int{0, 2}), 14, 15, span.At(7), true)
}

// expectedGrades is Grades' answer by the chapters 10 and 14: each position is asked which pieces cover it.
func expectedGrades(tr track.Track, s route.Set, p span.Span) (span.Span, bool) {
	var all []int64
	for _, r := range s.List {
		for i := range r.N {
			seg := tr.Segments[r.Seg[i]]
			begin := end(tr, s.From, r.Seg[:i])
			for x := max(p.Lo, begin); x <= min(p.Hi, begin+seg.Length); x++ {
				for k, piece := range seg.Pieces {
					if x-begin >= piece.From && (k == len(seg.Pieces)-1 || x-begin <= seg.Pieces[k+1].From) {
						all = append(all, piece.Grade)
					}
				}
			}
		}
	}
	if len(all) == 0 {
		return span.Span{}, false
	}
	return span.Span{Lo: slices.Min(all), Hi: slices.Max(all)}, true
}

// P14.3: scattered pieces against the chapter, position by position.
func TestGradesScattered(t *testing.T) {
	row := scatter(144)
	none := 0
	for range 4000 {
		tr := row.some(9)
		for _, s := range row.sets(tr) {
			for range 10 {
				lo := -s.From + int64(row.to(60)) - 10
				p := span.Span{Lo: lo, Hi: lo + int64(row.to(8)) - 1}
				want, there := expectedGrades(tr, s, p)
				wantGrades(t, tr, s, p.Lo, p.Hi, want, there)
				if !there {
					none++
				}
			}
		}
	}
	if none < 1000 {
		t.Errorf("%d spans have no grade", none)
	}
}

// P14.2 and P14.3: the greatest lengths, where numbers of 32 bits do not do.
func TestGreatLengths(t *testing.T) {
	tr := on(laid(1<<40, 1, 2), laid(1<<40-1), laid(1<<33, 1))
	tr.Segments[1].Pieces = []grade.Piece{{From: 0, Grade: 1}, {From: 1 << 39, Grade: 2}, {From: 1<<40 - 2, Grade: 3}}
	tr.Groups = []track.Group{{Id: 5, Segment: 1, Offset: 1<<40 - 1}}
	valid(t, tr)
	s := route.Begin(0, 1<<39)
	wantPaths(t, tr, s, 0, 1<<39, []int{0})
	wantPaths(t, tr, s, 0, 1<<39+1, []int{0, 1}, []int{0, 2})
	wantPaths(t, tr, s, 0, 1<<39+1<<33, []int{0, 1}, []int{0, 2})
	grown := set(1<<39, []int{0, 1}, []int{0, 2, 1})
	wantGrow(t, tr, s, 0, 1<<39+1<<33+1, api.OK, grown)
	wantGrow(t, tr, s, 3<<39-1, 1<<44, api.OK, grown)
	wantPaths(t, tr, s, 3<<39, 1<<44, []int{0, 2, 1})
	wantNone(t, tr, s, 3<<39+1<<33, 1<<44, api.ErrLost)
	wantPlaces(t, tr, grown, 0, 3<<39-1, 3<<39+1<<33-1)
	wantGrades(t, tr, grown, 3<<39-2, 3<<39-2, span.Span{Lo: 2, Hi: 3}, true)
	wantGrades(t, tr, grown, 3<<39+1<<33-1, 1<<44, span.At(3), true)
	wantGrades(t, tr, grown, 1<<40, 1<<40, span.Span{Lo: 1, Hi: 2}, true)
}

// wildTrack is a track of any numbers.
func (s *scatter) wildTrack() track.Track {
	var tr track.Track
	for range s.to(6) {
		seg := track.Segment{Length: s.any64()}
		for range s.to(4) {
			seg.Pieces = append(seg.Pieces, grade.Piece{From: s.any64(), Grade: s.any64()})
		}
		for range s.to(7) {
			seg.Next = append(seg.Next, int(s.any64()))
			seg.Next = append(seg.Next, s.to(6))
		}
		tr.Segments = append(tr.Segments, seg)
	}
	for range s.to(4) {
		tr.Groups = append(tr.Groups, track.Group{Id: int(s.any64()), Segment: int(s.any64()), Offset: s.any64(), Acc: s.any64(), Slack: s.any64()})
	}
	return tr
}

// wildSet is a set of any numbers.
func (s *scatter) wildSet() route.Set {
	w := route.Set{From: s.any64()}
	for range s.to(5) {
		r := route.Route{N: int(s.any64())}
		for i := range r.Seg {
			r.Seg[i] = s.to(6)
			if s.to(4) == 0 {
				r.Seg[i] = int(s.any64())
			}
		}
		if s.to(2) == 0 {
			r.N = s.to(14)
		}
		w.List = append(w.List, r)
	}
	return w
}

// askAll makes all calls of a set.
func askAll(tr track.Track, s route.Set, p span.Span, x int64) {
	s.Grow(tr, p)
	s.Grades(tr, p)
	s.Places(tr, int(x))
	s.Places(tr, 0)
	s.Has([]int{int(x), 0})
	s.Has(nil)
	for _, r := range s.List {
		r.Path()
		s.End(tr, r)
		s.Has(r.Path())
	}
}

// P1: any tracks, sets and numbers end, without a panic.
func TestNotValid(t *testing.T) {
	row := scatter(145)
	for range 50000 {
		tr := row.wildTrack()
		if row.to(3) == 0 {
			tr = row.some(9)
		}
		s := row.wildSet()
		if row.to(3) == 0 {
			s = route.Begin(int(row.any64()), row.any64())
		}
		p := span.Span{Lo: row.any64(), Hi: row.any64()}
		if row.to(2) == 0 {
			p.Lo, p.Hi = min(p.Lo, p.Hi), max(p.Lo, p.Hi)
		}
		if row.to(2) == 0 {
			s.From = max(-p.Lo, p.Lo)
		}
		askAll(tr, s, p, row.any64())
		askAll(track.Track{}, s, p, row.any64())
		askAll(tr, route.Set{}, p, row.any64())
	}
}

// P1: tracks that are not valid, on which there are too many ways to go through all of them.
func TestTooManyWays(t *testing.T) {
	for _, depth := range []int{3, 11, 12, 13, 14} {
		const wide = 300
		tr := on()
		for layer := range depth {
			var next []int
			for i := range wide {
				if layer < depth-1 {
					next = append(next, (layer+1)*wide+i)
				}
			}
			for range wide {
				tr.Segments = append(tr.Segments, laid(1, next...))
			}
		}
		for _, p := range []span.Span{{Lo: 0, Hi: 1}, {Lo: 0, Hi: 2}, {Lo: 0, Hi: most}, {Lo: 1000, Hi: most}, {Lo: most, Hi: most}} {
			askAll(tr, route.Begin(0, 0), p, 0)
		}
	}
	askAll(on(laid(0, 0, 0, 0, 0)), route.Begin(0, 0), span.Span{Lo: 5, Hi: 6}, 0)
	askAll(on(laid(-5, 0, 0)), route.Begin(0, 0), span.Span{Lo: 5, Hi: 6}, 0)
	askAll(on(laid(most, 0, 0)), route.Begin(0, 0), span.Span{Lo: 5, Hi: most}, 0)
	askAll(on(laid(1, make([]int, 1<<20)...)), route.Begin(0, 0), span.Span{Lo: 5, Hi: most}, 0)
}

// The document's rules: nil and empty lists are the same.
func TestEmptyLists(t *testing.T) {
	tr := fork()
	tr.Segments[2].Next, tr.Segments[3].Next = []int{}, nil
	tr.Groups = []track.Group{}
	wantPaths(t, tr, route.Begin(0, 4), 12, 15, []int{0, 1, 3}, []int{0, 2})
	tr.Segments[2].Next, tr.Segments[3].Next = nil, []int{}
	wantPaths(t, tr, route.Begin(0, 4), 12, 15, []int{0, 1, 3}, []int{0, 2})
	wantPlaces(t, tr, route.Begin(0, 4), 0)
	empty := route.Set{List: []route.Route{}}
	wantNone(t, tr, empty, 0, 0, api.ErrLost)
	wantHas(t, empty, false)
	wantHas(t, route.Begin(0, 4), true, []int{}...)
	wantPlaces(t, tr, empty, 0)
	wantGrades(t, tr, empty, 0, 0, span.Span{}, false)
}

// copied is a track that shares nothing with another one, with what lies behind its lists.
func copied(tr track.Track) track.Track {
	segments := slices.Clone(tr.Segments[:cap(tr.Segments)])
	for i, s := range segments {
		segments[i].Pieces = slices.Clone(s.Pieces[:cap(s.Pieces)])
		segments[i].Next = slices.Clone(s.Next[:cap(s.Next)])
	}
	return track.Track{Segments: segments, Groups: slices.Clone(tr.Groups[:cap(tr.Groups)])}
}

// The document's rules: neither the lists of an argument nor what lies behind them are changed, and a call's answer is the same each time.
func TestArguments(t *testing.T) {
	row := scatter(146)
	for range 500 {
		tr := row.some(9)
		for _, s := range row.sets(tr) {
			s.List = append(s.List, path(9, 9, 9), path(8, 8, 8))[:len(s.List)]
			p := row.near(tr, s)
			keptTrack, keptList := copied(tr), slices.Clone(s.List[:cap(s.List)])
			want, err := grown(tr, s, p)
			way := append(s.List[0].Path(), 7, 7)[:1]
			keptWay := slices.Clone(way[:cap(way)])
			for range 3 {
				wantGrow(t, tr, s, p.Lo, p.Hi, err, want)
				askAll(tr, s, p, 0)
				wantHas(t, s, true, way...)
			}
			if !reflect.DeepEqual(copied(tr), keptTrack) || !slices.Equal(s.List[:cap(s.List)], keptList) || !slices.Equal(way[:cap(way)], keptWay) {
				t.Fatalf("the track is %v, the set %v, the path %v; they were %v, %v, %v", tr, s, way, keptTrack, keptList, keptWay)
			}
		}
	}
}

// The document's rules: results are new memory, also where nothing changes.
func TestResults(t *testing.T) {
	tr := fork()
	tr.Groups = []track.Group{{Id: 1, Segment: 0, Offset: 4}}
	s := set(4, []int{0, 1}, []int{0, 2})
	same, _ := s.Grow(tr, span.Span{Lo: 0, Hi: 5})
	again, _ := s.Grow(tr, span.Span{Lo: 0, Hi: 5})
	spoil(same.List)
	if want := set(4, []int{0, 1}, []int{0, 2}); !sameSet(again, want) || !sameSet(s, want) {
		t.Errorf("the sets are %v and %v", again, s)
	}
	way, other := s.List[0].Path(), s.List[0].Path()
	spoil(way)
	if !slices.Equal(other, []int{0, 1}) || s.List[0] != path(0, 1) {
		t.Errorf("the paths are %v and %v", other, s.List[0])
	}
	places, others := s.Places(tr, 0), s.Places(tr, 0)
	spoil(places)
	if !slices.Equal(others, []int64{0}) {
		t.Errorf("the places are %v", others)
	}
	one, two := route.Begin(3, 1), route.Begin(3, 1)
	spoil(one.List)
	if !sameSet(two, set(1, []int{3})) {
		t.Errorf("the set is %v", two)
	}
}

// spoil overwrites a list, and what lies behind it.
func spoil[T any](l []T) { clear(l[:cap(l)]) }

// The document's rules: the order does not hang on that in which a map is gone through.
func TestSameEachTime(t *testing.T) {
	want, err := route.Begin(1, 3).Grow(both(), span.Span{Lo: 0, Hi: 47})
	if err != api.OK || !slices.IsSortedFunc(want.List, ahead) {
		t.Fatalf("%v, %d", want, err)
	}
	for range 1000 {
		wantGrow(t, both(), route.Begin(1, 3), 0, 47, api.OK, want)
	}
}
