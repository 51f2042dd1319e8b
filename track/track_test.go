package track_test

import (
	"math"
	"reflect"
	"slices"
	"testing"

	"odograph/api"
	"odograph/grade"
	"odograph/span"
	"odograph/track"
)

const (
	least = math.MinInt64
	most  = math.MaxInt64
)

// scatter is a row of numbers, always the same one.
type scatter uint64

func (s *scatter) next() uint64 {
	*s = *s*6364136223846793005 + 1442695040888963407
	return uint64(*s ^ *s>>31)
}

// to is a number of the row from 0 to n - 1.
func (s *scatter) to(n int) int { return int(s.next() >> 8 % uint64(n)) }

// level is one piece with a grade.
func level(g int64) []grade.Piece { return []grade.Piece{{Grade: g}} }

// pieces are n pieces, one behind the other, with the grades from g on.
func pieces(n int, g int64) []grade.Piece {
	var l []grade.Piece
	for i := range int64(n) {
		l = append(l, grade.Piece{From: i, Grade: g + i})
	}
	return l
}

// row is n segments, each followed by the next one, whose lengths are all different.
func row(n int) []track.Segment {
	var l []track.Segment
	for i := range n {
		s := track.Segment{Length: int64(1000 + i), Pieces: level(int64(i))}
		if i < n-1 {
			s.Next = []int{i + 1}
		}
		l = append(l, s)
	}
	return l
}

// groups are n groups, scattered over so many segments of row.
func groups(n, segments int) []track.Group {
	var l []track.Group
	for i := range n {
		l = append(l, track.Group{Id: 3*i + 1, Segment: i * 7 % segments, Offset: int64(i), Acc: int64(n - i), Slack: int64(i % 5)})
	}
	return l
}

// valid is a valid track with so many segments and groups.
func valid(segments, many int) track.Track {
	return track.Track{Segments: row(segments), Groups: groups(many, segments)}
}

// ids is a track whose groups have these Ids.
func ids(l ...int) track.Track {
	t := track.Track{Segments: row(1)}
	for _, id := range l {
		t.Groups = append(t.Groups, track.Group{Id: id})
	}
	return t
}

// wantCheck is Check's answer written out.
func wantCheck(t *testing.T, tr track.Track, want api.Errno, index int) {
	t.Helper()
	if got, i := tr.Check(); got != want || i != index {
		t.Errorf("Check of %v = %d, %d; want %d, %d", short(tr), got, i, want, index)
	}
}

// short is a track that is shown, if it is not too long for that.
func short(tr track.Track) any {
	if len(tr.Segments)+len(tr.Groups) > 20 {
		return struct{ segments, groups int }{len(tr.Segments), len(tr.Groups)}
	}
	return tr
}

// wantFind is Find's answer written out.
func wantFind(t *testing.T, tr track.Track, id, want int, there bool) {
	t.Helper()
	if got, ok := tr.Find(id); got != want || ok != there {
		t.Errorf("Find(%d) of %v = %d, %t; want %d, %t", id, tr.Groups, got, ok, want, there)
	}
}

// wantGrades is Grades' answer written out.
func wantGrades(t *testing.T, tr track.Track, lo, hi int64) {
	t.Helper()
	if got := tr.Grades(); got != (span.Span{Lo: lo, Hi: hi}) {
		t.Errorf("Grades of %v = %v; want %d to %d", short(tr), got, lo, hi)
	}
}

// wantFollows is Follows' answer written out.
func wantFollows(t *testing.T, tr track.Track, a, b int, want bool) {
	t.Helper()
	if got := tr.Follows(a, b); got != want {
		t.Errorf("Follows(%d, %d) of %v = %t; want %t", a, b, short(tr), got, want)
	}
}

// P11.1: tracks written out.
func TestCheckWrittenOut(t *testing.T) {
	flat := track.Segment{Length: 10, Pieces: level(0)}
	two := track.Segment{Length: 10, Pieces: []grade.Piece{{From: 0, Grade: 5}, {From: 9, Grade: -3}}, Next: []int{0, 1}}
	bad := track.Segment{Length: 9, Pieces: two.Pieces}
	for _, c := range []struct {
		segments []track.Segment
		groups   []track.Group
		want     api.Errno
		index    int
	}{
		{[]track.Segment{flat}, nil, api.OK, 0},
		{[]track.Segment{flat, two}, nil, api.OK, 0},
		{[]track.Segment{two, flat}, []track.Group{{Id: 1}}, api.OK, 0},
		{[]track.Segment{flat}, []track.Group{{Id: 1, Offset: 10, Acc: 5, Slack: 3}, {Id: 2, Offset: 4}}, api.OK, 0},
		{[]track.Segment{flat}, []track.Group{{Id: 7, Offset: 4}, {Id: 9, Offset: 4}}, api.OK, 0},
		{nil, nil, api.ErrMany, 0},
		{[]track.Segment{}, []track.Group{}, api.ErrMany, 0},
		{nil, []track.Group{{Id: 1}}, api.ErrMany, 0},
		{[]track.Segment{two}, nil, api.ErrForm, 0},
		{[]track.Segment{bad}, nil, api.ErrForm, 0},
		{[]track.Segment{{}}, nil, api.ErrForm, 0},
		{[]track.Segment{flat, bad}, nil, api.ErrForm, 1},
		{[]track.Segment{flat, two, bad, bad}, nil, api.ErrForm, 2},
		{[]track.Segment{flat, bad}, []track.Group{{}}, api.ErrForm, 1},
		{[]track.Segment{flat}, []track.Group{{}}, api.ErrTwice, 0},
		{[]track.Segment{flat}, []track.Group{{Id: 3}, {Id: 3}}, api.ErrTwice, 1},
		{[]track.Segment{flat}, []track.Group{{Id: 3}, {Id: 4}, {Id: 2}}, api.ErrTwice, 2},
		{[]track.Segment{flat}, []track.Group{{Id: 3}, {Id: 4, Segment: 1}, {Id: 2}}, api.ErrTwice, 1},
		{[]track.Segment{flat}, []track.Group{{Id: 3, Offset: 11}}, api.ErrTwice, 0},
	} {
		wantCheck(t, track.Track{Segments: c.segments, Groups: c.groups}, c.want, c.index)
	}
}

// P11.1: from 1 to MaxSegments segments, and at most MaxGroups groups; else ErrMany, whatever they are.
func TestCheckNumbers(t *testing.T) {
	for n := range 2 * api.MaxSegments {
		want := api.OK
		if n < 1 || n > 200 {
			want = api.ErrMany
		}
		wantCheck(t, track.Track{Segments: row(n)}, want, 0)
		wantCheck(t, track.Track{Segments: row(n), Groups: groups(api.MaxGroups, max(n, 1))}, want, 0)
	}
	for n := range 2 * api.MaxGroups {
		want := api.OK
		if n > 400 {
			want = api.ErrMany
		}
		wantCheck(t, valid(1, n), want, 0)
		wantCheck(t, valid(api.MaxSegments, n), want, 0)
	}
	for _, tr := range []track.Track{
		{Segments: make([]track.Segment, 201)},
		{Segments: make([]track.Segment, 1<<16)},
		{Segments: make([]track.Segment, 3), Groups: make([]track.Group, 401)},
		{Segments: row(3), Groups: make([]track.Group, 401)},
		{Segments: row(3), Groups: make([]track.Group, 1<<16)},
		{Groups: make([]track.Group, 2)},
		{Segments: make([]track.Segment, 201), Groups: make([]track.Group, 401)},
	} {
		wantCheck(t, tr, api.ErrMany, 0)
	}
}

// wrongSegments are segments that no track of the greatest size has.
func wrongSegments() []track.Segment {
	return []track.Segment{
		{},
		{Length: 0, Pieces: level(0)},
		{Length: -1, Pieces: level(0)},
		{Length: least, Pieces: level(0)},
		{Length: 1<<40 + 1, Pieces: level(0)},
		{Length: most, Pieces: level(0)},
		{Length: 10},
		{Length: 10, Pieces: []grade.Piece{}},
		{Length: 10, Pieces: []grade.Piece{{From: 1}}},
		{Length: 10, Pieces: []grade.Piece{{From: 0}, {From: 10}}},
		{Length: 10, Pieces: []grade.Piece{{From: 0}, {From: 5}, {From: 5}}},
		{Length: 10, Pieces: level(1<<20 + 1)},
		{Length: 10, Pieces: level(-1<<20 - 1)},
		{Length: 10, Pieces: pieces(11, 0)},
		{Length: 100, Pieces: pieces(65, 0)},
		{Length: 10, Pieces: level(0), Next: []int{-1}},
		{Length: 10, Pieces: level(0), Next: []int{200}},
		{Length: 10, Pieces: level(0), Next: []int{0, 200}},
		{Length: 10, Pieces: level(0), Next: []int{-1, 0}},
		{Length: 10, Pieces: level(0), Next: []int{0, 0}},
		{Length: 10, Pieces: level(0), Next: []int{math.MinInt}},
		{Length: 10, Pieces: level(0), Next: []int{0, math.MaxInt}},
		{Length: 10, Pieces: level(0), Next: []int{0, 1, 2}},
	}
}

// P11.1: of several segments the first one that is not valid is told, whatever the groups are.
func TestCheckFirstSegment(t *testing.T) {
	for _, n := range []int{1, 2, 3, 5, api.MaxSegments} {
		for i := range n {
			for _, wrong := range wrongSegments() {
				tr := valid(n, 2)
				tr.Segments[i] = wrong
				wantCheck(t, tr, api.ErrForm, i)
				tr.Segments[n-1] = wrong
				wantCheck(t, tr, api.ErrForm, i)
				tr.Groups[0].Id = 0
				wantCheck(t, tr, api.ErrForm, i)
			}
		}
	}
}

// P11.1: a Length is from 1 to MaxLength.
func TestCheckLength(t *testing.T) {
	for _, length := range []int64{1, 2, 3, 1000, 1<<40 - 1, 1 << 40} {
		wantCheck(t, track.Track{Segments: []track.Segment{{Length: length, Pieces: level(0)}}}, api.OK, 0)
	}
	for _, length := range []int64{least, -1 << 40, -1, 0, 1<<40 + 1, 1 << 41, most} {
		wantCheck(t, track.Track{Segments: []track.Segment{{Length: length, Pieces: level(0)}}}, api.ErrForm, 0)
	}
}

// P11.1: the pieces are those of the segment's own length.
func TestCheckPieces(t *testing.T) {
	for n := range api.MaxPieces + 3 {
		for length := int64(-1); length < api.MaxPieces+3; length++ {
			s := track.Segment{Length: length, Pieces: pieces(n, -5)}
			tr := valid(3, 2)
			tr.Segments[1] = s
			tr.Groups[1].Segment, tr.Groups[1].Offset = 0, 0
			if grade.Check(s.Pieces, length) == api.OK {
				wantCheck(t, tr, api.OK, 0)
			} else {
				wantCheck(t, tr, api.ErrForm, 1)
			}
		}
	}
	wantCheck(t, track.Track{Segments: []track.Segment{{Length: 64, Pieces: pieces(64, -30)}}}, api.OK, 0)
	wantCheck(t, track.Track{Segments: []track.Segment{{Length: 63, Pieces: pieces(64, -30)}}}, api.ErrForm, 0)
	wantCheck(t, track.Track{Segments: []track.Segment{{Length: 1 << 40, Pieces: []grade.Piece{{From: 0, Grade: 1 << 20}, {From: 1<<40 - 1, Grade: -1 << 20}}}}}, api.OK, 0)
}

// nexts are all lists of at most three numbers from -2 to n + 1.
func nexts(n int) [][]int {
	all := [][]int{nil, {}}
	for a := -2; a <= n+1; a++ {
		all = append(all, []int{a})
		for b := -2; b <= n+1; b++ {
			all = append(all, []int{a, b})
			for c := -2; c <= n+1; c++ {
				all = append(all, []int{a, b, c})
			}
		}
	}
	return all
}

// validNext tells by the chapter whether a list may be the Next of a segment of a track that has n.
func validNext(next []int, n int) bool {
	switch len(next) {
	case 0:
		return true
	case 1:
		return 0 <= next[0] && next[0] < n
	case 2:
		return 0 <= next[0] && next[0] < next[1] && next[1] < n
	}
	return false
}

// P11.1: Next has at most two indices of segments, in strictly ascending order; the segment itself may be one.
func TestCheckNext(t *testing.T) {
	for n := 1; n <= 5; n++ {
		for _, next := range nexts(n) {
			for i := range n {
				tr := track.Track{Segments: row(n)}
				tr.Segments[i].Next = next
				if validNext(next, n) {
					wantCheck(t, tr, api.OK, 0)
				} else {
					wantCheck(t, tr, api.ErrForm, i)
				}
			}
		}
	}
}

// P11.1: Next in the greatest track.
func TestCheckNextGreatest(t *testing.T) {
	for _, c := range []struct {
		next []int
		want api.Errno
	}{
		{[]int{199}, api.OK}, {[]int{198, 199}, api.OK}, {[]int{0, 199}, api.OK}, {[]int{200}, api.ErrForm}, {[]int{199, 200}, api.ErrForm},
		{[]int{199, 198}, api.ErrForm}, {[]int{199, 199}, api.ErrForm}, {[]int{255}, api.ErrForm}, {[]int{256}, api.ErrForm}, {[]int{math.MaxInt}, api.ErrForm},
		{[]int{math.MinInt, 0}, api.ErrForm}, {[]int{197, 198, 199}, api.ErrForm}, {make([]int, 1<<20), api.ErrForm},
	} {
		tr := valid(api.MaxSegments, 0)
		tr.Segments[199].Next = c.next
		index := 0
		if c.want != api.OK {
			index = 199
		}
		wantCheck(t, tr, c.want, index)
	}
}

// P11.1: an Id is from 1 to 65535, and greater than the one before.
func TestCheckIds(t *testing.T) {
	for _, c := range []struct {
		ids   []int
		want  api.Errno
		index int
	}{
		{[]int{1}, api.OK, 0}, {[]int{2}, api.OK, 0}, {[]int{65534}, api.OK, 0}, {[]int{65535}, api.OK, 0}, {[]int{1, 65535}, api.OK, 0}, {[]int{1, 2, 3}, api.OK, 0},
		{[]int{65533, 65534, 65535}, api.OK, 0}, {[]int{0}, api.ErrTwice, 0}, {[]int{-1}, api.ErrTwice, 0}, {[]int{65536}, api.ErrTwice, 0}, {[]int{65537}, api.ErrTwice, 0},
		{[]int{math.MinInt}, api.ErrTwice, 0}, {[]int{math.MaxInt}, api.ErrTwice, 0}, {[]int{-2, -1, 1}, api.ErrTwice, 0}, {[]int{0, 1}, api.ErrTwice, 0},
		{[]int{1, 1}, api.ErrTwice, 1}, {[]int{2, 1}, api.ErrTwice, 1}, {[]int{1, 0}, api.ErrTwice, 1}, {[]int{1, -1}, api.ErrTwice, 1}, {[]int{65535, 65536}, api.ErrTwice, 1},
		{[]int{65535, 65535}, api.ErrTwice, 1}, {[]int{65535, 1}, api.ErrTwice, 1}, {[]int{1, 65536, 65537}, api.ErrTwice, 1}, {[]int{1, 3, 3}, api.ErrTwice, 2},
		{[]int{1, 3, 2}, api.ErrTwice, 2}, {[]int{3, 5, 4, 6}, api.ErrTwice, 2}, {[]int{3, 5, 1, 6}, api.ErrTwice, 2}, {[]int{5, 3, 4, 6}, api.ErrTwice, 1}, {[]int{1, 2, 3, 65536}, api.ErrTwice, 3},
		{[]int{1, 2, 3, 3, 3}, api.ErrTwice, 3}, {[]int{1, 3, 65536, 4}, api.ErrTwice, 2},
	} {
		wantCheck(t, ids(c.ids...), c.want, c.index)
	}
}

// P11.1: each number of a group in its range, whichever group it is, and beyond it.
func TestCheckGroupNumbers(t *testing.T) {
	for _, n := range []int{1, 2, 3, api.MaxGroups} {
		for i := range n {
			for _, c := range []struct {
				change func(g *track.Group, x int64)
				in     []int64
				out    []int64
			}{
				{func(g *track.Group, x int64) { g.Segment, g.Offset = int(x), 0 }, []int64{0, 1, 2, 3, 4}, []int64{least, -5, -1, 5, 6, 199, 200, 1 << 32, most}},
				{func(g *track.Group, x int64) { g.Acc = x }, []int64{0, 1, 1<<20 - 1, 1 << 20}, []int64{least, -1, 1<<20 + 1, 1 << 32, most}},
				{func(g *track.Group, x int64) { g.Slack = x }, []int64{0, 1, 1<<20 + 1, 1<<24 - 1, 1 << 24}, []int64{least, -1, 1<<24 + 1, 1 << 32, most}},
				{func(g *track.Group, x int64) { g.Segment, g.Offset = 3, x }, []int64{0, 1, 1000, 1002, 1003}, []int64{least, -1, 1004, 1005, 1 << 40, most}},
				{func(g *track.Group, x int64) { g.Segment, g.Offset = 0, x }, []int64{0, 1, 999, 1000}, []int64{least, -1, 1001, 1003, 1 << 40, most}},
			} {
				tr := valid(5, n)
				for _, x := range c.in {
					c.change(&tr.Groups[i], x)
					wantCheck(t, tr, api.OK, 0)
				}
				for _, x := range c.out {
					c.change(&tr.Groups[i], x)
					wantCheck(t, tr, api.ErrTwice, i)
				}
			}
		}
	}
}

// P11.1: an Offset is at most the greatest Length, and both numbers beside it at their greatest.
func TestCheckGreatestGroup(t *testing.T) {
	tr := track.Track{
		Segments: []track.Segment{{Length: 1 << 40, Pieces: level(0)}, {Length: 1, Pieces: level(0)}},
		Groups:   []track.Group{{Id: 65535, Segment: 0, Offset: 1 << 40, Acc: 1 << 20, Slack: 1 << 24}},
	}
	wantCheck(t, tr, api.OK, 0)
	tr.Groups[0].Segment = 1
	wantCheck(t, tr, api.ErrTwice, 0)
	tr.Groups[0].Offset = 1
	wantCheck(t, tr, api.OK, 0)
	tr.Groups[0].Offset = 2
	wantCheck(t, tr, api.ErrTwice, 0)
}

// P11.1: of several groups the first one that is not valid is told.
func TestCheckFirstGroup(t *testing.T) {
	wrong := []track.Group{{}, {Id: 30000, Segment: 5}, {Id: 30000, Segment: -1}, {Id: 30000, Offset: 1001}, {Id: 30000, Acc: -1}, {Id: 30000, Slack: -1}, {Id: 65536}}
	for _, n := range []int{2, 3, 7, api.MaxGroups} {
		for i := range n {
			for _, g := range wrong {
				tr := valid(5, n)
				tr.Groups[i] = g
				wantCheck(t, tr, api.ErrTwice, i)
				tr.Groups[n-1] = g
				wantCheck(t, tr, api.ErrTwice, i)
			}
		}
	}
}

// P11.2: groups written out, the chapter's example first.
func TestFindWrittenOut(t *testing.T) {
	for _, c := range []struct {
		ids   []int
		id    int
		want  int
		there bool
	}{
		{[]int{3, 9}, 7, 1, false}, {[]int{3, 9}, 3, 0, true}, {[]int{3, 9}, 9, 1, true}, {[]int{3, 9}, 2, 0, false}, {[]int{3, 9}, 4, 1, false}, {[]int{3, 9}, 8, 1, false},
		{[]int{3, 9}, 10, 2, false}, {[]int{3, 9}, 65535, 2, false}, {[]int{3, 9}, 0, 0, false}, {[]int{3, 9}, -3, 0, false}, {[]int{3, 9}, 65536 + 3, 2, false},
		{[]int{3, 9}, math.MinInt, 0, false}, {[]int{3, 9}, math.MaxInt, 2, false}, {nil, 1, 0, false}, {nil, 0, 0, false}, {[]int{}, 7, 0, false}, {nil, math.MaxInt, 0, false},
		{[]int{1}, 1, 0, true}, {[]int{1}, 0, 0, false}, {[]int{1}, 2, 1, false}, {[]int{65535}, 65535, 0, true}, {[]int{65535}, 65534, 0, false}, {[]int{65535}, 65536, 1, false},
		{[]int{1, 2, 3, 4, 5}, 1, 0, true}, {[]int{1, 2, 3, 4, 5}, 2, 1, true}, {[]int{1, 2, 3, 4, 5}, 3, 2, true}, {[]int{1, 2, 3, 4, 5}, 4, 3, true}, {[]int{1, 2, 3, 4, 5}, 5, 4, true},
		{[]int{1, 2, 3, 4, 5}, 6, 5, false}, {[]int{1, 2, 3, 4, 5}, 0, 0, false},
	} {
		wantFind(t, ids(c.ids...), c.id, c.want, c.there)
	}
}

// P11.2: each number of groups; each Id that one has, and those between and around them.
func TestFindEach(t *testing.T) {
	for _, n := range []int{0, 1, 2, 3, 4, 5, 8, 13, 100, 399, api.MaxGroups} {
		tr := valid(5, n)
		wantCheck(t, tr, api.OK, 0)
		for i := range n {
			wantFind(t, tr, 3*i-1, i, false)
			wantFind(t, tr, 3*i, i, false)
			wantFind(t, tr, 3*i+1, i, true)
		}
		for id := 3*n - 1; id < 3*n+5; id++ {
			wantFind(t, tr, id, n, false)
		}
	}
}

// P11.2: scattered Ids against the chapter: the index is the number of groups with lesser ones.
func TestFindScattered(t *testing.T) {
	row := scatter(11)
	for range 2000 {
		var l []int
		for id := 1 + row.to(5); id <= 65535 && len(l) < 400; id += 1 + row.to(1<<row.to(15)) {
			l = append(l, id)
		}
		tr := ids(l...)
		wantCheck(t, tr, api.OK, 0)
		for range 50 {
			id := row.to(65540) - 2
			lesser := 0
			for _, other := range l {
				if other < id {
					lesser++
				}
			}
			wantFind(t, tr, id, lesser, slices.Contains(l, id))
		}
	}
}

// P11.2: grades written out: the least and the greatest one wherever they lie.
func TestGradesWrittenOut(t *testing.T) {
	for _, c := range []struct {
		grades [][]int64
		lo, hi int64
	}{
		{[][]int64{{0}}, 0, 0}, {[][]int64{{5}}, 5, 5}, {[][]int64{{-5}}, -5, -5}, {[][]int64{{5, -3}}, -3, 5}, {[][]int64{{-3, 5}}, -3, 5}, {[][]int64{{5}, {-3}}, -3, 5},
		{[][]int64{{-3}, {5}}, -3, 5}, {[][]int64{{4, 5, 6}, {1, 2}}, 1, 6}, {[][]int64{{4, 5, 6}, {7, 8}}, 4, 8}, {[][]int64{{-4, -5, -6}, {-1, -2}}, -6, -1},
		{[][]int64{{1}, {9}, {2}}, 1, 9}, {[][]int64{{2}, {1}, {9}}, 1, 9}, {[][]int64{{9}, {2}, {1}}, 1, 9}, {[][]int64{{2, 9, 2}, {2, 1, 2}, {2}}, 1, 9}, {[][]int64{{7, 7}, {7}, {7}}, 7, 7},
		{[][]int64{{1 << 20}, {-1 << 20}}, -1 << 20, 1 << 20}, {[][]int64{{-1 << 20}}, -1 << 20, -1 << 20}, {[][]int64{{1 << 20}}, 1 << 20, 1 << 20}, {[][]int64{{1}, {0}}, 0, 1}, {[][]int64{{-1}, {0}}, -1, 0},
	} {
		var tr track.Track
		for _, l := range c.grades {
			s := track.Segment{Length: 10}
			for i, g := range l {
				s.Pieces = append(s.Pieces, grade.Piece{From: int64(i), Grade: g})
			}
			tr.Segments = append(tr.Segments, s)
		}
		wantCheck(t, tr, api.OK, 0)
		wantGrades(t, tr, c.lo, c.hi)
	}
}

// tryGrades holds Grades against the chapter.
func tryGrades(t *testing.T, tr track.Track) {
	t.Helper()
	wantCheck(t, tr, api.OK, 0)
	var all []int64
	for _, s := range tr.Segments {
		for _, p := range s.Pieces {
			all = append(all, p.Grade)
		}
	}
	wantGrades(t, tr, slices.Min(all), slices.Max(all))
}

// P11.2: a grade that is beyond all others counts, in whichever piece of whichever segment it is.
func TestGradesEachPiece(t *testing.T) {
	for _, size := range []struct{ segments, pieces int }{{1, 1}, {1, 64}, {2, 3}, {7, 5}, {200, 4}} {
		for i := range size.segments {
			for k := range size.pieces {
				tr := track.Track{Segments: row(size.segments)}
				for j := range tr.Segments {
					tr.Segments[j].Pieces = pieces(size.pieces, 100)
				}
				for _, g := range []int64{1000, -1000} {
					tr.Segments[i].Pieces[k].Grade = g
					tryGrades(t, tr)
				}
			}
		}
	}
}

// P11.2: scattered grades against the chapter.
func TestGradesScattered(t *testing.T) {
	row := scatter(112)
	for range 2000 {
		var tr track.Track
		for range 1 + row.to(6) {
			s := track.Segment{Length: 1 << 40}
			for i := range 1 + row.to(6) {
				s.Pieces = append(s.Pieces, grade.Piece{From: int64(i), Grade: int64(row.next()) % (api.MaxAccel + 1) >> row.to(20)})
			}
			tr.Segments = append(tr.Segments, s)
		}
		tryGrades(t, tr)
	}
}

// P11.2: which segments follow which, written out, with numbers that are no index.
func TestFollowsWrittenOut(t *testing.T) {
	tr := track.Track{Segments: row(5)}
	for i, next := range [][]int{{1, 2}, {3}, {2, 3}, nil, {0}} {
		tr.Segments[i].Next = next
	}
	wantCheck(t, tr, api.OK, 0)
	pairs := [][2]int{{0, 1}, {0, 2}, {1, 3}, {2, 2}, {2, 3}, {4, 0}}
	all := []int{math.MinInt, -5, -2, -1, 0, 1, 2, 3, 4, 5, 6, 7, 1 << 32, math.MaxInt}
	for _, a := range all {
		for _, b := range all {
			wantFollows(t, tr, a, b, slices.Contains(pairs, [2]int{a, b}))
		}
	}
}

// P11.2: Follows is for any track: b is looked for in all of Next, whether it is an index or not.
func TestFollowsNotValid(t *testing.T) {
	tr := track.Track{Segments: []track.Segment{{Next: []int{9, -1, 4, 4, math.MinInt, math.MaxInt}}, {Next: []int{}}, {}}, Groups: []track.Group{{}}}
	all := []int{math.MinInt, math.MinInt + 1, -2, -1, 0, 1, 2, 3, 4, 5, 8, 9, 10, math.MaxInt - 1, math.MaxInt}
	for _, a := range all {
		for _, b := range all {
			wantFollows(t, tr, a, b, a == 0 && (b == 9 || b == -1 || b == 4 || b == math.MinInt || b == math.MaxInt))
			wantFollows(t, track.Track{}, a, b, false)
			wantFollows(t, track.Track{Segments: make([]track.Segment, 1000)}, a, b, false)
		}
	}
	many := track.Track{Segments: make([]track.Segment, 1000)}
	for i := range many.Segments {
		for k := range 30 {
			many.Segments[i].Next = append(many.Segments[i].Next, i-k*k)
		}
	}
	for a := range many.Segments {
		wantFollows(t, many, a, a-29*29, true)
		wantFollows(t, many, a, a, true)
		wantFollows(t, many, a, a-2, false)
		wantFollows(t, many, a, a+1, false)
	}
}

// P11.2: all pairs in the greatest track.
func TestFollowsGreatest(t *testing.T) {
	tr := valid(api.MaxSegments, api.MaxGroups)
	for i := range tr.Segments {
		tr.Segments[i].Next = []int{i / 2, (i + 200) / 2}
	}
	wantCheck(t, tr, api.OK, 0)
	for a := -1; a <= 200; a++ {
		for b := -1; b <= 200; b++ {
			wantFollows(t, tr, a, b, a >= 0 && a < 200 && (b == a/2 || b == (a+200)/2))
		}
	}
}

// The document's rules: nil and empty lists are the same.
func TestEmptyLists(t *testing.T) {
	none := track.Track{Segments: []track.Segment{{Length: 5, Pieces: level(1)}}}
	empty := track.Track{Segments: []track.Segment{{Length: 5, Pieces: level(1), Next: []int{}}}, Groups: []track.Group{}}
	for _, tr := range []track.Track{none, empty} {
		wantCheck(t, tr, api.OK, 0)
		wantFind(t, tr, 1, 0, false)
		wantGrades(t, tr, 1, 1)
		wantFollows(t, tr, 0, 0, false)
	}
	for _, tr := range []track.Track{{}, {Segments: []track.Segment{}, Groups: []track.Group{}}} {
		wantCheck(t, tr, api.ErrMany, 0)
	}
}

// any64 is a number of the row that is near an edge rather often.
func any64(row *scatter) int64 {
	edges := []int64{least, -1, 0, 1, 2, 200, 1 << 20, 1 << 24, 65535, 1 << 40, most}
	if row.to(3) > 0 {
		return edges[row.to(len(edges))] + int64(row.to(3)) - 1
	}
	return int64(row.next()) >> row.to(64)
}

// wild is a track of any numbers.
func wild(row *scatter) track.Track {
	var tr track.Track
	for range row.to(5) {
		s := track.Segment{Length: any64(row)}
		for range row.to(4) {
			s.Pieces = append(s.Pieces, grade.Piece{From: any64(row), Grade: any64(row)})
		}
		for range row.to(4) {
			s.Next = append(s.Next, int(any64(row)))
		}
		tr.Segments = append(tr.Segments, s)
	}
	for range row.to(5) {
		tr.Groups = append(tr.Groups, track.Group{Id: int(any64(row)), Segment: int(any64(row)), Offset: any64(row), Acc: any64(row), Slack: any64(row)})
	}
	return tr
}

// P1: tracks that are not valid end, too, without a panic.
func TestNotValidTracks(t *testing.T) {
	row := scatter(113)
	tracks := []track.Track{
		{},
		{Segments: make([]track.Segment, 1<<20), Groups: make([]track.Group, 1<<20)},
		{Segments: []track.Segment{{Pieces: make([]grade.Piece, 1<<20), Next: make([]int, 1<<20)}}},
		{Groups: []track.Group{{Id: 9}, {Id: 3}, {Id: 9}}},
	}
	for range 20000 {
		tracks = append(tracks, wild(&row))
	}
	for _, tr := range tracks {
		tr.Check()
		tr.Grades()
		for _, x := range []int{math.MinInt, -1, 0, 1, 3, 9, 65535, math.MaxInt, int(any64(&row))} {
			if i, there := tr.Find(x); there && tr.Groups[i].Id != x {
				t.Errorf("Find(%d) of %v = %d", x, tr.Groups, i)
			}
			tr.Follows(x, int(any64(&row)))
		}
	}
}

// P11.1: wild tracks against the chapter.
func TestCheckScattered(t *testing.T) {
	row := scatter(114)
	seen := map[api.Errno]int{}
	for range 50000 {
		tr := nearlyValid(&row)
		want, index := expectedCheck(tr)
		wantCheck(t, tr, want, index)
		seen[want]++
	}
	for _, e := range []api.Errno{api.OK, api.ErrForm, api.ErrTwice} {
		if seen[e] < 1000 {
			t.Errorf("%d tracks have the error %d", seen[e], e)
		}
	}
}

// nearlyValid is a valid track of which up to two numbers are changed.
func nearlyValid(row *scatter) track.Track {
	tr := valid(1+row.to(6), row.to(6))
	for range row.to(3) {
		s := &tr.Segments[row.to(len(tr.Segments))]
		change := row.to(8)
		if len(tr.Groups) == 0 {
			change %= 3
		}
		switch change {
		case 0:
			s.Length = any64(row)
		case 1:
			s.Pieces[0].Grade = any64(row)
		case 2:
			s.Next = append(s.Next, int(any64(row)))
		case 3:
			tr.Groups[row.to(len(tr.Groups))].Id = int(any64(row))
		case 4:
			tr.Groups[row.to(len(tr.Groups))].Segment = int(any64(row))
		case 5:
			tr.Groups[row.to(len(tr.Groups))].Offset = any64(row)
		case 6:
			tr.Groups[row.to(len(tr.Groups))].Acc = any64(row)
		case 7:
			tr.Groups[row.to(len(tr.Groups))].Slack = any64(row)
		}
	}
	return tr
}

// expectedCheck is Check's answer by the chapter.
func expectedCheck(tr track.Track) (api.Errno, int) {
	if len(tr.Segments) < 1 || len(tr.Segments) > 200 || len(tr.Groups) > 400 {
		return api.ErrMany, 0
	}
	wrong := slices.IndexFunc(tr.Segments, func(s track.Segment) bool {
		return s.Length < 1 || s.Length > 1<<40 || grade.Check(s.Pieces, s.Length) != api.OK || !validNext(s.Next, len(tr.Segments))
	})
	if wrong >= 0 {
		return api.ErrForm, wrong
	}
	for i, g := range tr.Groups {
		in := g.Id >= 1 && g.Id <= 65535 && (i == 0 || g.Id > tr.Groups[i-1].Id)
		in = in && g.Segment >= 0 && g.Segment < len(tr.Segments) && g.Offset >= 0 && g.Offset <= tr.Segments[g.Segment].Length
		if !in || g.Acc < 0 || g.Acc > 1048576 || g.Slack < 0 || g.Slack > 16777216 {
			return api.ErrTwice, i
		}
	}
	return api.OK, 0
}

// copied is a track that shares nothing with another one, with what lies behind its lists.
func copied(tr track.Track) track.Track {
	segments := slices.Clone(tr.Segments[:cap(tr.Segments)])
	for i, s := range segments {
		segments[i].Pieces = slices.Clone(s.Pieces[:cap(s.Pieces)])
		segments[i].Next = slices.Clone(s.Next[:cap(s.Next)])
	}
	return track.Track{Segments: segments, Groups: slices.Clone(tr.Groups[:cap(tr.Groups)])}
}

// The document's rules: neither the lists of a track nor what lies behind them is changed, and a call's answer is the same each time.
func TestArguments(t *testing.T) {
	row := scatter(115)
	for range 1000 {
		tr := nearlyValid(&row)
		want, index := expectedCheck(tr)
		kept := copied(tr)
		id := row.to(20)
		find, there := tr.Find(id)
		grades := tr.Grades()
		for range 2 {
			wantCheck(t, tr, want, index)
			if i, ok := tr.Find(id); i != find || ok != there {
				t.Errorf("Find(%d) of %v = %d, %t; it was %d, %t", id, tr.Groups, i, ok, find, there)
			}
			wantGrades(t, tr, grades.Lo, grades.Hi)
			tr.Follows(row.to(6), row.to(6))
		}
		if !reflect.DeepEqual(copied(tr), kept) {
			t.Errorf("the track is %v; it was %v", copied(tr), kept)
		}
	}
}
