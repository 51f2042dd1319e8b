package grade_test

import (
	"math"
	"slices"
	"testing"

	"odograph/api"
	"odograph/grade"
	"odograph/span"
)

const (
	least = math.MinInt64
	most  = math.MaxInt64
)

// scatter is a row of numbers, always the same one.
type scatter uint64

func (s *scatter) next() uint64 {
	*s = *s*6364136223846793005 + 1442695040888963407
	return uint64(*s ^ *s>>31)
}

// to is a number of the row from 0 to n - 1.
func (s *scatter) to(n int) int { return int(s.next() >> 8 % uint64(n)) }

// list is pieces from pairs of a From and a Grade.
func list(pairs ...int64) []grade.Piece {
	var l []grade.Piece
	for i := 0; i < len(pairs); i += 2 {
		l = append(l, grade.Piece{From: pairs[i], Grade: pairs[i+1]})
	}
	return l
}

// even is n pieces, each as long as far, whose grades are all different and neither ascend nor descend.
func even(n int, far int64) []grade.Piece {
	var l []grade.Piece
	for i := range n {
		l = append(l, grade.Piece{From: int64(i) * far, Grade: int64(i*7919%1009) - 500})
	}
	return l
}

// expectedAt is At's answer by the chapter.
func expectedAt(l []grade.Piece, at int64) int64 {
	for _, p := range slices.Backward(l) {
		if p.From <= at {
			return p.Grade
		}
	}
	return l[0].Grade
}

// covers tells by the chapter whether a piece covers a position of s.
func covers(l []grade.Piece, i int, s span.Span) bool {
	from, to := int64(least), int64(most)
	if i > 0 {
		from = l[i].From
	}
	if i < len(l)-1 {
		to = l[i+1].From
	}
	return from <= s.Hi && s.Lo <= to
}

// expectedBounds is Bounds' answer by the chapter.
func expectedBounds(l []grade.Piece, s span.Span) (span.Span, bool) {
	if s.Lo > s.Hi {
		return span.Span{}, false
	}
	var grades []int64
	for i, p := range l {
		if covers(l, i, s) {
			grades = append(grades, p.Grade)
		}
	}
	return span.Span{Lo: slices.Min(grades), Hi: slices.Max(grades)}, true
}

// tryAt holds At against the chapter.
func tryAt(t *testing.T, l []grade.Piece, at int64) {
	t.Helper()
	if got, want := grade.At(l, at), expectedAt(l, at); got != want {
		t.Errorf("At(%v, %d) = %d; want %d", l, at, got, want)
	}
}

// tryBounds holds Bounds against the chapter.
func tryBounds(t *testing.T, l []grade.Piece, s span.Span) {
	t.Helper()
	want, right := expectedBounds(l, s)
	wantBounds(t, l, s, want, right)
}

// wantBounds is Bounds' answer written out.
func wantBounds(t *testing.T, l []grade.Piece, s, want span.Span, right bool) {
	t.Helper()
	if got, ok := grade.Bounds(l, s); got != want || ok != right {
		t.Errorf("Bounds(%v, %v) = %v, %t; want %v, %t", l, s, got, ok, want, right)
	}
}

// wantCheck is Check's answer written out.
func wantCheck(t *testing.T, l []grade.Piece, length int64, want api.Errno) {
	t.Helper()
	if got := grade.Check(l, length); got != want {
		t.Errorf("Check(%v, %d) = %d; want %d", l, length, got, want)
	}
}

// wantValid fails if pieces that a test is about to use are not those of a length.
func wantValid(t *testing.T, l []grade.Piece, length int64) {
	t.Helper()
	wantCheck(t, l, length, api.OK)
}

// positions are those at which the answer may change: around each From, and at both ends of 64 bits.
func positions(l []grade.Piece) []int64 {
	all := []int64{least, least + 1, -api.MaxPlace, -1, 0, 1, api.MaxPlace, most - 1, most}
	for _, p := range l {
		for near := int64(-2); near <= 2; near++ {
			all = append(all, p.From+near)
		}
	}
	slices.Sort(all)
	return slices.Compact(all)
}

// samples are lists of valid pieces of various numbers and grades.
func samples() [][]grade.Piece {
	return [][]grade.Piece{
		list(0, 5, 10, -3),
		list(0, 0),
		list(0, 7),
		list(0, -api.MaxAccel),
		list(0, 1, 1, 2),
		list(0, 2, 1, 1, 2, 3, 3, -3),
		list(0, 4, 5, 4, 10, 4),
		list(0, -4, 5, 4, 10, -4, 15, 4),
		list(0, 9, 100, 8, 200, 7, 300, 6, 400, 5),
		list(0, api.MaxAccel, 1<<20, -api.MaxAccel, 1<<40, 0),
		list(0, 3, most-2, -7, most-1, 5),
		even(api.MaxPieces, 1),
		even(api.MaxPieces-1, 1000),
	}
}

// P10.1: lists and lengths written out, the chapter's example first.
func TestCheckWrittenOut(t *testing.T) {
	for _, c := range []struct {
		l      []grade.Piece
		length int64
		want   api.Errno
	}{
		{list(0, 5, 10, -3), 20, api.OK},
		{list(0, 5, 10, -3), 11, api.OK},
		{list(0, 5, 10, -3), 10, api.ErrForm},
		{list(0, 5, 10, -3), 9, api.ErrForm},
		{list(0, 5), 1, api.OK},
		{list(0, 0), 1, api.OK},
		{list(0, 5), 0, api.ErrForm},
		{list(0, 5), -1, api.ErrForm},
		{list(0, 5), least, api.ErrForm},
		{list(0, 5), most, api.OK},
		{nil, 20, api.ErrForm},
		{list(), 20, api.ErrForm},
		{nil, 0, api.ErrForm},
		{list(1, 5), 20, api.ErrForm},
		{list(-1, 5), 20, api.ErrForm},
		{list(-1, 5, 0, 5), 20, api.ErrForm},
		{list(1, 5, 10, -3), 20, api.ErrForm},
		{list(least, 5, 0, 5), 20, api.ErrForm},
		{list(most, 5), most, api.ErrForm},
		{list(0, 5, 0, 5), 20, api.ErrForm},
		{list(0, 5, 10, 5, 10, 6), 20, api.ErrForm},
		{list(0, 5, 10, 5, 9, 6), 20, api.ErrForm},
		{list(0, 5, 10, 5, 9, 6, 11, 7), 20, api.ErrForm},
		{list(0, 5, 10, 5, 0, 6), 20, api.ErrForm},
		{list(0, 5, -1, 5), 20, api.ErrForm},
		{list(0, 5, least, 5), 20, api.ErrForm},
		{list(0, 5, 10, 5, 11, 6), 20, api.OK},
		{list(0, 5, 10, 5, 19, 6), 20, api.OK},
		{list(0, 5, 10, 5, 20, 6), 20, api.ErrForm},
		{list(0, 5, 10, 5, 21, 6), 20, api.ErrForm},
		{list(0, 5, 10, 5, most, 6), 20, api.ErrForm},
		{list(0, 5, 20, 5, 10, 6), 20, api.ErrForm},
		{list(0, 5, 10, 5), 1, api.ErrForm},
		{list(0, 5, most-1, 5), most, api.OK},
		{list(0, 5, most, 5), most, api.ErrForm},
	} {
		wantCheck(t, c.l, c.length, c.want)
	}
}

// P10.1: from 1 to MaxPieces pieces, neither none nor more.
func TestCheckNumberOfPieces(t *testing.T) {
	for n := range 3 * api.MaxPieces {
		want := api.OK
		if n < 1 || n > 64 {
			want = api.ErrForm
		}
		wantCheck(t, even(n, 1), 1000, want)
		wantCheck(t, even(n, 1<<32), 1<<40, want)
	}
}

// P10.1: each Grade, in whichever piece, is from -MaxAccel to MaxAccel.
func TestCheckGrades(t *testing.T) {
	for _, n := range []int{1, 2, 3, api.MaxPieces} {
		for i := range n {
			for _, g := range []int64{0, 1, -1, 1 << 20, -1 << 20, 1<<20 - 1, 1 - 1<<20} {
				l := even(n, 10)
				l[i].Grade = g
				wantCheck(t, l, 10000, api.OK)
			}
			for _, g := range []int64{1<<20 + 1, -1<<20 - 1, 1 << 32, -1 << 32, most, least, least + 1} {
				l := even(n, 10)
				l[i].Grade = g
				wantCheck(t, l, 10000, api.ErrForm)
			}
		}
	}
}

// P10.1: each From, in whichever piece, is behind the one before and less than the length.
func TestCheckFroms(t *testing.T) {
	for _, n := range []int{1, 2, 3, 5, api.MaxPieces} {
		length := int64(n) * 10
		wantCheck(t, even(n, 10), length, api.OK)
		for i := range n {
			for from := int64(-12); from <= length+12; from++ {
				l := even(n, 10)
				l[i].From = from
				low, high := int64(i)*10-9, int64(i)*10+9
				if i == 0 {
					low, high = 0, 0
				}
				want := api.ErrForm
				if low <= from && from <= high {
					want = api.OK
				}
				wantCheck(t, l, length, want)
			}
		}
	}
}

// P10.1: all lists of up to three pieces with small numbers, of all small lengths.
func TestCheckSmall(t *testing.T) {
	for a := int64(-1); a <= 3; a++ {
		for length := int64(-2); length <= 6; length++ {
			wantCheck(t, list(a, 1), length, when(a == 0 && length > 0))
			for b := int64(-1); b <= 5; b++ {
				wantCheck(t, list(a, 1, b, 2), length, when(a == 0 && b > 0 && length > b))
				for c := int64(-1); c <= 6; c++ {
					wantCheck(t, list(a, 1, b, 2, c, 3), length, when(a == 0 && b > 0 && c > b && length > c))
				}
			}
		}
	}
}

// when is OK, if something holds; else ErrForm.
func when(holds bool) api.Errno {
	if holds {
		return api.OK
	}
	return api.ErrForm
}

// P10.2: grades written out, the chapter's example first.
func TestAtWrittenOut(t *testing.T) {
	l := list(0, 5, 10, -3)
	for _, c := range []struct{ at, want int64 }{
		{10, -3}, {9, 5}, {11, -3}, {0, 5}, {1, 5}, {-1, 5}, {-10, 5}, {least, 5}, {19, -3}, {20, -3}, {21, -3}, {most, -3},
	} {
		if got := grade.At(l, c.at); got != c.want {
			t.Errorf("At(%v, %d) = %d; want %d", l, c.at, got, c.want)
		}
	}
	l = list(0, -1, 3, 4, 4, 9, 8, 2)
	for i, want := range []int64{-1, -1, -1, 4, 9, 9, 9, 9, 2, 2, 2} {
		if got := grade.At(l, int64(i)); got != want {
			t.Errorf("At(%v, %d) = %d; want %d", l, i, got, want)
		}
	}
}

// P10.2: the grade around each From and at both ends of 64 bits.
func TestAtNearEdges(t *testing.T) {
	for _, l := range samples() {
		wantValid(t, l, most)
		for _, at := range positions(l) {
			tryAt(t, l, at)
		}
	}
}

// P10.2: each number of pieces, at each position.
func TestAtEachNumber(t *testing.T) {
	for n := 1; n <= api.MaxPieces; n++ {
		l := even(n, 3)
		wantValid(t, l, int64(n)*3)
		for at := int64(-3); at <= int64(n)*3+3; at++ {
			tryAt(t, l, at)
		}
	}
}

// P10.2: bounds written out, the chapter's example first.
func TestBoundsWrittenOut(t *testing.T) {
	l := list(0, 5, 10, -3)
	for _, c := range []struct{ lo, hi, low, high int64 }{
		{10, 12, -3, 5}, {10, 10, -3, 5}, {9, 9, 5, 5}, {11, 11, -3, -3}, {9, 10, -3, 5}, {9, 11, -3, 5}, {0, 9, 5, 5}, {0, 10, -3, 5}, {11, 12, -3, -3},
		{0, 0, 5, 5}, {-7, 0, 5, 5}, {-7, -7, 5, 5}, {-7, 9, 5, 5}, {-7, 10, -3, 5}, {30, 40, -3, -3}, {least, least, 5, 5}, {most, most, -3, -3},
		{least, 9, 5, 5}, {least, 10, -3, 5}, {10, most, -3, 5}, {11, most, -3, -3}, {least, most, -3, 5},
	} {
		wantBounds(t, l, span.Span{Lo: c.lo, Hi: c.hi}, span.Span{Lo: c.low, Hi: c.high}, true)
	}
	l = list(0, 2, 10, 7, 20, -4, 30, 1)
	for _, c := range []struct{ lo, hi, low, high int64 }{
		{0, 9, 2, 2}, {1, 10, 2, 7}, {10, 11, 2, 7}, {11, 19, 7, 7}, {11, 20, -4, 7}, {20, 20, -4, 7}, {20, 30, -4, 7}, {21, 29, -4, -4}, {21, 30, -4, 1},
		{30, 30, -4, 1}, {31, 31, 1, 1}, {9, 20, -4, 7}, {9, 19, 2, 7}, {10, 20, -4, 7}, {10, 19, 2, 7}, {0, 40, -4, 7}, {-5, 31, -4, 7},
	} {
		wantBounds(t, l, span.Span{Lo: c.lo, Hi: c.hi}, span.Span{Lo: c.low, Hi: c.high}, true)
	}
}

// P10.2: spans between all positions around each From and at both ends of 64 bits, with those that are not valid among them.
func TestBoundsNearEdges(t *testing.T) {
	for _, l := range samples() {
		wantValid(t, l, most)
		at := positions(l)
		for _, lo := range at {
			for _, hi := range at {
				tryBounds(t, l, span.Span{Lo: lo, Hi: hi})
			}
		}
	}
}

// P10.2: a span that is not valid has no bounds.
func TestBoundsNotValid(t *testing.T) {
	for _, l := range samples() {
		for _, s := range []span.Span{{Lo: 1, Hi: 0}, {Lo: 10, Hi: 9}, {Lo: 12, Hi: 10}, {Lo: 0, Hi: -1}, {Lo: most, Hi: most - 1}, {Lo: least + 1, Hi: least}, {Lo: most, Hi: least}} {
			wantBounds(t, l, s, span.Span{}, false)
		}
	}
}

// P10.2: a single piece covers all positions.
func TestOnePiece(t *testing.T) {
	for _, g := range []int64{-1 << 20, -1, 0, 1, 1 << 20} {
		l := list(0, g)
		for _, lo := range positions(l) {
			for _, hi := range positions(l) {
				if lo <= hi {
					wantBounds(t, l, span.Span{Lo: lo, Hi: hi}, span.At(g), true)
				}
			}
			if got := grade.At(l, lo); got != g {
				t.Errorf("At(%v, %d) = %d; want %d", l, lo, got, g)
			}
		}
	}
}

// P10.2: the bounds have the grade at each position of the span, and both ends of them are grades of pieces that cover one.
func TestBoundsAgainstPositions(t *testing.T) {
	row := scatter(10)
	for range 3000 {
		l := scattered(&row, 1+row.to(8), 4)
		lo := int64(row.to(40)) - 5
		s := span.Span{Lo: lo, Hi: lo + int64(row.to(12))}
		var near []int64
		for at := s.Lo; at <= s.Hi; at++ {
			// Just before a From the piece before it is the last one, which covers the From, too.
			near = append(near, grade.At(l, at))
			if slices.ContainsFunc(l, func(p grade.Piece) bool { return p.From == at }) {
				near = append(near, grade.At(l, at-1))
			}
		}
		wantBounds(t, l, s, span.Span{Lo: slices.Min(near), Hi: slices.Max(near)}, true)
	}
}

// scattered is n valid pieces, each at most as long as far.
func scattered(row *scatter, n, far int) []grade.Piece {
	var l []grade.Piece
	from := int64(0)
	for range n {
		l = append(l, grade.Piece{From: from, Grade: int64(row.next()) % (api.MaxAccel + 1)})
		from += int64(1 + row.to(far))
	}
	return l
}

// P10.2: scattered pieces, positions and spans.
func TestScattered(t *testing.T) {
	row := scatter(102)
	for range 20000 {
		l := scattered(&row, 1+row.to(api.MaxPieces), 1+row.to(1<<24))
		end := l[len(l)-1].From
		wantValid(t, l, end+1)
		wantCheck(t, l, end, api.ErrForm)
		at := int64(row.next()) >> row.to(64)
		other := int64(row.next() % uint64(end+100))
		p := l[row.to(len(l))].From
		for _, x := range []int64{at, other, p} {
			tryAt(t, l, x)
			for _, y := range []int64{at, other, p, p + 1} {
				tryBounds(t, l, span.Span{Lo: x, Hi: y})
			}
		}
	}
}

// P1: pieces that are not valid end, too, without a panic.
func TestNotValidPieces(t *testing.T) {
	row := scatter(103)
	far := make([]grade.Piece, 1<<20)
	for i := range far {
		far[i] = grade.Piece{From: int64(row.next()), Grade: int64(row.next())}
	}
	lists := [][]grade.Piece{nil, list(), list(5, 5), list(-5, 5), list(3, 1, 2, 2, 1, 3), list(0, 1, 0, 2, 0, 3), list(most, most, least, least), far, even(1000, 1)}
	for range 2000 {
		var l []grade.Piece
		for range row.to(9) {
			l = append(l, grade.Piece{From: int64(row.to(20)) - 10, Grade: int64(row.next())})
		}
		lists = append(lists, l)
	}
	for _, l := range lists {
		for _, lo := range []int64{least, -10, -1, 0, 1, 2, 5, 10, most} {
			grade.At(l, lo)
			grade.Check(l, lo)
			for _, hi := range []int64{least, -10, -1, 0, 1, 2, 5, 10, most} {
				if _, ok := grade.Bounds(l, span.Span{Lo: lo, Hi: hi}); ok && lo > hi {
					t.Errorf("Bounds(%v, %d to %d) is true", l, lo, hi)
				}
			}
		}
	}
}

// The document's rules: neither the pieces nor what lies behind them is changed, and a call's answer is the same each time.
func TestArguments(t *testing.T) {
	for _, l := range samples() {
		all := append(slices.Clone(l), list(7, 7, 3, 3, -1, 1<<30)...)
		kept := slices.Clone(all)
		part := all[:len(l)]
		for range 2 {
			wantCheck(t, part, most, api.OK)
			for _, at := range positions(l) {
				tryAt(t, part, at)
				tryBounds(t, part, span.Span{Lo: at, Hi: most})
			}
		}
		if !slices.Equal(all, kept) {
			t.Errorf("the pieces are %v; they were %v", all, kept)
		}
	}
}
