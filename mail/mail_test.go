package mail_test

import (
	"bytes"
	"math"
	"slices"
	"testing"

	"odograph/api"
	"odograph/crc"
	"odograph/frame"
	"odograph/mail"
)

// scatter is a row of numbers, always the same one.
type scatter uint64

func (s *scatter) next() uint64 {
	*s = *s*6364136223846793005 + 1442695040888963407
	return uint64(*s ^ *s>>31)
}

// to is a number of the row from 0 to n - 1.
func (s *scatter) to(n int) int { return int(s.next() >> 8 % uint64(n)) }

type item = []byte

// sent is the bytes of a frame.
func sent(kind, seq int, value int64) item {
	b, err := frame.Put(frame.Frame{Kind: kind, Seq: seq, Value: value})
	if err != api.OK {
		panic("no such frame")
	}
	return b
}

// repeated is n times the same byte string.
func repeated(n int, b item) []item { return slices.Repeat([]item{b}, n) }

// accepted is the mail of nothing but one frame.
func accepted(kind int, value int64) mail.Mail {
	var m mail.Mail
	m.Has[kind], m.Value[kind] = true, value
	return m
}

// residue is a number modulo 256 by counting on from a multiple of 256 that is not above it.
func residue(cycle int) int {
	floor := cycle / 256
	if cycle < 0 && cycle%256 != 0 {
		floor--
	}
	return cycle - floor*256
}

// expected is the mail by the chapter: each byte string is held against all those before it.
func expected(cycle int, list []item) mail.Mail {
	var m mail.Mail
	var before []int
	for i, b := range list {
		f, err := frame.Get(b)
		if i >= 32 {
			m.Beyond++
		} else if err != api.OK {
			m.Bad++
		} else if f.Seq != residue(cycle) {
			m.Stale++
		} else if slices.Contains(before, f.Kind) {
			m.Twice++
		} else {
			before = append(before, f.Kind)
			m.Has[f.Kind] = true
			m.Value[f.Kind] = f.Value
		}
	}
	return m
}

// trySort holds Sort against the chapter, with what the mail says of itself.
func trySort(t *testing.T, cycle int, list []item) {
	t.Helper()
	got, want := mail.Sort(cycle, list), expected(cycle, list)
	if got != want {
		t.Errorf("Sort(%d, %x) = %v; want %v", cycle, list, got, want)
		return
	}
	tryOf(t, got)
	if quiet := want.Bad+want.Stale+want.Twice+want.Beyond == 0; got.Quiet() != quiet {
		t.Errorf("%v is quiet: %v", got, got.Quiet())
	}
}

// tryOf holds Of against the arrays of a mail.
func tryOf(t *testing.T, m mail.Mail) {
	t.Helper()
	for kind := -2; kind < 9; kind++ {
		value, has := m.Of(kind)
		if kind < 0 || kind > 5 {
			if value != 0 || has {
				t.Errorf("Of(%d) of %v = %d, %v; want nothing", kind, m, value, has)
			}
		} else if value != m.Value[kind] || has != m.Has[kind] {
			t.Errorf("Of(%d) of %v = %d, %v", kind, m, value, has)
		}
	}
}

// wantSort is Sort's answer written out.
func wantSort(t *testing.T, cycle int, list []item, want mail.Mail) {
	t.Helper()
	if got := mail.Sort(cycle, list); got != want {
		t.Errorf("Sort(%d, %x) = %v; want %v", cycle, list, got, want)
	}
	trySort(t, cycle, list)
}

// notFrames are byte strings each of which is not a frame in its own way, for most of them one of the cycle 7.
func notFrames() []item {
	short, long := sent(frame.First, 7, 258), sent(frame.Radar, 7, -258)
	garbled := slices.Clone(short)
	garbled[1] ^= 1
	return []item{
		nil,
		{},
		{1},
		{1, 7, 2, 1},
		crc.Seal([]byte{1, 7}),
		crc.Seal([]byte{0, 7, 2, 1, 2}),
		crc.Seal([]byte{6, 7, 2, 1, 2}),
		crc.Seal([]byte{255, 7, 2, 1, 2}),
		crc.Seal([]byte{1, 7, 4, 0, 0, 1, 2}),
		crc.Seal([]byte{3, 7, 2, 1, 2}),
		short[:6],
		long[:8],
		append(slices.Clone(short), 0),
		append(slices.Clone(long), long...),
		{1, 7, 2, 1, 2, 0, 0},
		{1, 7, 2, 1, 2, 0x63, 0x97},
		garbled,
		bytes.Repeat([]byte{1}, 1000),
	}
}

// P8.1: nothing arrives.
func TestNothing(t *testing.T) {
	for _, cycle := range []int{math.MinInt, -1, 0, 1, 258, math.MaxInt} {
		wantSort(t, cycle, nil, mail.Mail{})
		wantSort(t, cycle, []item{}, mail.Mail{})
	}
}

// P8.1: mail written out, the chapter's example first.
func TestWrittenOut(t *testing.T) {
	for _, c := range []struct {
		cycle int
		list  []item
		want  mail.Mail
	}{
		{258, []item{sent(1, 2, 9)}, accepted(1, 9)},
		{258, []item{sent(1, 1, 9)}, mail.Mail{Stale: 1}},
		{7, []item{[]byte("\x01\x07\x02\x01\x02\x97\x63")}, accepted(1, 258)},
		{7, []item{[]byte("\x01\x07\x02\x01\x02\x97\x64")}, mail.Mail{Bad: 1}},
		{8, []item{[]byte("\x01\x07\x02\x01\x02\x97\x63")}, mail.Mail{Stale: 1}},
		{7, []item{sent(5, 7, 1), sent(4, 7, -2), sent(3, 7, 3), sent(2, 7, 4), sent(1, 7, 5)}, mail.Mail{
			Has:   [6]bool{false, true, true, true, true, true},
			Value: [6]int64{0, 5, 4, 3, -2, 1},
		}},
		{7, []item{nil, sent(3, 8, 1), sent(3, 7, -5), sent(3, 7, 6), {3}, sent(2, 6, 1), sent(3, 7, -5)}, mail.Mail{
			Has:   [6]bool{3: true},
			Value: [6]int64{3: -5},
			Bad:   2,
			Stale: 2,
			Twice: 2,
		}},
		{7, append(repeated(32, sent(1, 6, 0)), sent(1, 7, 0)), mail.Mail{Stale: 32, Beyond: 1}},
	} {
		wantSort(t, c.cycle, c.list, c.want)
	}
}

// P8.1: each Kind is accepted by itself, with the edges of its Values; also with a Value of 0, which a Kind without a frame has, too.
func TestEachKind(t *testing.T) {
	for kind := 1; kind <= 5; kind++ {
		values := []int64{0, 1, 255, 256, 65535}
		if kind == frame.Radar || kind == frame.Accel {
			values = append(values, math.MinInt32, -65536, -1, 65536, math.MaxInt32)
		}
		for _, value := range values {
			wantSort(t, 7, []item{sent(kind, 7, value)}, accepted(kind, value))
		}
	}
}

// P8.1: every Seq in cycles of all residues, small, near the ends, and negative.
func TestEverySeq(t *testing.T) {
	var frames []item
	for seq := range 256 {
		frames = append(frames, sent(frame.Balise, seq, int64(seq)))
	}
	var cycles []int
	for near := -600; near <= 600; near++ {
		cycles = append(cycles, near, 1<<31+near, -1<<31+near, 1<<62+near)
	}
	for near := range 600 {
		cycles = append(cycles, math.MinInt+near, math.MaxInt-near)
	}
	for _, cycle := range cycles {
		for seq, b := range frames {
			want := mail.Mail{Stale: 1}
			if seq == residue(cycle) {
				want = accepted(frame.Balise, int64(seq))
			}
			if got := mail.Sort(cycle, []item{b}); got != want {
				t.Errorf("Sort(%d) of the Seq %d = %v; want %v", cycle, seq, got, want)
			}
		}
	}
}

// P8.1: the Seq of some cycles written out.
func TestModulo(t *testing.T) {
	for _, c := range []struct{ cycle, seq int }{
		{0, 0}, {1, 1}, {127, 127}, {128, 128}, {255, 255}, {256, 0}, {257, 1}, {258, 2}, {511, 255}, {512, 0}, {65536 + 7, 7},
		{-1, 255}, {-2, 254}, {-127, 129}, {-128, 128}, {-129, 127}, {-255, 1}, {-256, 0}, {-257, 255}, {-512, 0}, {-65536 - 7, 249},
		{math.MaxInt, 255}, {math.MaxInt - 255, 0}, {math.MinInt, 0}, {math.MinInt + 1, 1}, {math.MinInt + 255, 255},
	} {
		wantSort(t, c.cycle, []item{sent(2, c.seq, 9)}, accepted(2, 9))
		wantSort(t, c.cycle, []item{sent(2, c.seq^1, 9)}, mail.Mail{Stale: 1})
		wantSort(t, c.cycle, []item{sent(2, c.seq^128, 9)}, mail.Mail{Stale: 1})
	}
}

// P8.1: whatever is not a frame is Bad, alone, ahead of a frame and behind it, also where its bytes name the cycle, or another one.
func TestBad(t *testing.T) {
	for _, b := range notFrames() {
		for _, cycle := range []int{0, 6, 7, 263} {
			wantSort(t, cycle, []item{b}, mail.Mail{Bad: 1})
		}
		want := accepted(frame.First, 9)
		want.Bad = 1
		wantSort(t, 7, []item{b, sent(frame.First, 7, 9)}, want)
		wantSort(t, 7, []item{sent(frame.First, 7, 9), b}, want)
	}
	all := notFrames()
	wantSort(t, 7, all, mail.Mail{Bad: len(all)})
}

// P8.1: a frame of another cycle is Stale, also where a frame of its Kind was accepted, and takes its Kind from none.
func TestStale(t *testing.T) {
	right, old := sent(frame.Radar, 7, -9), sent(frame.Radar, 6, 5)
	for _, list := range [][]item{{old, right}, {right, old}, {sent(frame.Accel, 8, 0), right}} {
		want := accepted(frame.Radar, -9)
		want.Stale = 1
		wantSort(t, 7, list, want)
	}
	want := accepted(frame.Radar, -9)
	want.Stale, want.Twice = 4, 1
	wantSort(t, 7, []item{old, old, right, old, right, old}, want)
	wantSort(t, 9, []item{old, right, right}, mail.Mail{Stale: 3})
}

// P8.1: the first frame of a Kind is accepted, any further one is Twice, whether its Value is another one or not.
func TestTwice(t *testing.T) {
	for kind := 1; kind <= 5; kind++ {
		for _, values := range [][]int64{{0, 0}, {0, 1}, {1, 0}, {9, 9, 9}, {5, 6, 7, 5}, {65535, 0, 65535}} {
			var list []item
			for _, value := range values {
				list = append(list, sent(kind, 7, value))
			}
			want := accepted(kind, values[0])
			want.Twice = len(values) - 1
			wantSort(t, 7, list, want)
			// Those of other Kinds between them change nothing in that.
			for other := 1; other <= 5; other++ {
				if other != kind {
					with := slices.Insert(slices.Clone(list), 1, sent(other, 7, 3))
					both := want
					both.Has[other], both.Value[other] = true, 3
					wantSort(t, 7, with, both)
				}
			}
		}
	}
}

// P8.1: only the first 32 byte strings are processed, whatever they are, and the others are counted.
func TestBeyond(t *testing.T) {
	last := sent(frame.Accel, 7, -9)
	for _, many := range []int{1, 30, 31, 32, 33, 34, 63, 64, 65, 300} {
		first := min(many, 32)
		for _, c := range []struct {
			b    item
			want mail.Mail
		}{
			{nil, mail.Mail{Bad: first}},
			{sent(frame.Accel, 6, 0), mail.Mail{Stale: first}},
		} {
			c.want.Beyond = many - first
			wantSort(t, 7, repeated(many, c.b), c.want)
			if many < 32 {
				c.want.Has[frame.Accel], c.want.Value[frame.Accel] = true, -9
			} else {
				c.want.Beyond++
			}
			wantSort(t, 7, append(repeated(many, c.b), last), c.want)
		}
		want := accepted(frame.First, 4)
		want.Twice, want.Beyond = first-1, many-first
		wantSort(t, 7, repeated(many, sent(frame.First, 7, 4)), want)
	}
}

// P8.1: a frame at each index among many, and where it is no longer processed.
func TestEachIndex(t *testing.T) {
	for _, many := range []int{32, 33, 40} {
		for at := range many {
			list := repeated(many, nil)
			list[at] = sent(frame.Second, 7, 77)
			want := mail.Mail{Bad: 32, Beyond: many - 32}
			if at < 32 {
				want.Has[frame.Second], want.Value[frame.Second] = true, 77
				want.Bad--
			}
			wantSort(t, 7, list, want)
		}
	}
}

// P8.1: all lists of up to five byte strings of some that concern one another.
func TestShortLists(t *testing.T) {
	some := []item{
		nil,
		sent(frame.First, 7, 1), sent(frame.First, 7, 2), sent(frame.First, 8, 3),
		sent(frame.Second, 7, 4), sent(frame.Radar, 7, -5), sent(frame.Radar, 6, -6),
		crc.Seal([]byte{1, 7, 2, 0}),
	}
	var all func(list []item)
	all = func(list []item) {
		trySort(t, 7, list)
		if len(list) == 5 {
			return
		}
		for _, b := range some {
			all(append(slices.Clone(list), b))
		}
	}
	all(nil)
}

// P8.1: scattered lists of all lengths near the limit, in scattered cycles.
func TestScattered(t *testing.T) {
	row := scatter(8)
	bad := notFrames()
	for range 20000 {
		cycle := int(row.next()) >> row.to(64)
		var list []item
		for range row.to(70) {
			seq := residue(cycle)
			switch row.to(8) {
			case 0:
				list = append(list, bad[row.to(len(bad))])
				continue
			case 1:
				seq = row.to(256)
			case 2:
				seq = residue(seq - 1)
			}
			list = append(list, sent(1+row.to(5), seq, int64(row.to(65536))))
		}
		trySort(t, cycle, list)
	}
}

// P8.1: without frames twice, the order of what arrives changes nothing.
func TestOrder(t *testing.T) {
	row := scatter(80)
	list := []item{
		nil, sent(1, 7, 1), sent(2, 7, 2), sent(3, 7, -3), sent(4, 7, -4), sent(5, 7, 5), sent(3, 6, 9), {1, 2, 3},
	}
	want := mail.Sort(7, list)
	for range 2000 {
		for i := len(list) - 1; i > 0; i-- {
			j := row.to(i + 1)
			list[i], list[j] = list[j], list[i]
		}
		wantSort(t, 7, list, want)
	}
}

// P8.2: what was accepted of each kind, and nothing for what is not an index, also where its lowest bits are one.
func TestOf(t *testing.T) {
	m := mail.Mail{
		Has:   [6]bool{false, true, true, false, true, false},
		Value: [6]int64{0, 65535, 0, 0, math.MinInt32, 0},
		Bad:   1, Stale: 2, Twice: 3, Beyond: 4,
	}
	for _, c := range []struct {
		kind  int
		value int64
		has   bool
	}{
		{0, 0, false}, {1, 65535, true}, {2, 0, true}, {3, 0, false}, {4, math.MinInt32, true}, {5, 0, false},
		{-1, 0, false}, {-2, 0, false}, {-255, 0, false}, {-256 + 1, 0, false}, {math.MinInt, 0, false}, {math.MinInt + 1, 0, false},
		{6, 0, false}, {7, 0, false}, {8 + 1, 0, false}, {256 + 1, 0, false}, {1<<32 + 1, 0, false}, {math.MaxInt, 0, false},
	} {
		if value, has := m.Of(c.kind); value != c.value || has != c.has {
			t.Errorf("Of(%d) = %d, %v; want %d, %v", c.kind, value, has, c.value, c.has)
		}
	}
}

// P8.2: every index of the arrays has what stands there, the first and the last one, too.
func TestOfEveryIndex(t *testing.T) {
	for kind := range 6 {
		for _, value := range []int64{math.MinInt64, -1, 0, 1, math.MaxInt64} {
			tryOf(t, accepted(kind, value))
			if got, has := accepted(kind, value).Of(kind); got != value || !has {
				t.Errorf("Of(%d) = %d, %v; want %d", kind, got, has, value)
			}
		}
	}
	tryOf(t, mail.Mail{})
	tryOf(t, mail.Mail{Has: [6]bool{true, true, true, true, true, true}, Value: [6]int64{1, 2, 3, 4, 5, 6}})
}

// P8.2: a mail is quiet if each of the four numbers is 0, whatever was accepted; their sum may be 0 without that.
func TestQuiet(t *testing.T) {
	numbers := []int{math.MinInt, -2, -1, 0, 1, 2, 256, 1 << 32, math.MaxInt}
	for _, bad := range numbers {
		for _, stale := range numbers {
			for _, twice := range numbers {
				for _, beyond := range numbers {
					m := accepted(frame.Radar, -1)
					m.Bad, m.Stale, m.Twice, m.Beyond = bad, stale, twice, beyond
					want := bad == 0 && stale == 0 && twice == 0 && beyond == 0
					if m.Quiet() != want {
						t.Errorf("%v is quiet: %v", m, m.Quiet())
					}
				}
			}
		}
	}
	if !(mail.Mail{}).Quiet() {
		t.Error("no mail is not quiet")
	}
}

// P8.2: whether mail that was sorted is quiet, written out.
func TestQuietSorted(t *testing.T) {
	right := sent(frame.First, 7, 1)
	for _, c := range []struct {
		list []item
		want bool
	}{
		{nil, true},
		{[]item{right}, true},
		{[]item{right, sent(frame.Second, 7, 1)}, true},
		{[]item{nil}, false},
		{[]item{right, {1}}, false},
		{[]item{right, sent(frame.Second, 6, 1)}, false},
		{[]item{right, right}, false},
		{repeated(33, nil), false},
	} {
		if got := mail.Sort(7, c.list).Quiet(); got != c.want {
			t.Errorf("the mail of %x is quiet: %v; want %v", c.list, got, c.want)
		}
	}
}

// The document's rules: what is passed, and its spare capacity, is neither changed nor read beyond its end.
func TestArguments(t *testing.T) {
	whole := append(repeated(30, nil), sent(1, 7, 1), sent(1, 7, 2), sent(2, 7, 3), sent(3, 6, 4), sent(5, 7, 5))
	var kept []item
	for _, b := range whole {
		kept = append(kept, slices.Clone(b))
	}
	for n := range len(whole) + 1 {
		trySort(t, 7, whole[:n])
		if !slices.EqualFunc(whole, kept, bytes.Equal) {
			t.Fatalf("of %d byte strings: %x; they were %x", n, whole, kept)
		}
	}
	// A byte string that goes on behind its end.
	b := append(sent(3, 7, -5), " and more behind"...)
	wantSort(t, 7, []item{b[:9]}, accepted(3, -5))
	if string(b[9:]) != " and more behind" {
		t.Errorf("behind the byte string there is %q", b[9:])
	}
}

// The document's rules: nothing of what is passed is retained, and nothing from one call to another.
func TestResults(t *testing.T) {
	list := []item{sent(1, 7, 258), nil, sent(1, 7, 9), sent(2, 6, 9)}
	first := mail.Sort(7, list)
	kept := first
	clear(list[0])
	clear(list)
	if first != kept {
		t.Errorf("%v after its argument was changed; it was %v", first, kept)
	}
	wantSort(t, 7, []item{sent(1, 7, 3)}, accepted(1, 3))
	wantSort(t, 7, nil, mail.Mail{})
}

// P1: very many byte strings, and very long ones, end, too.
func TestMany(t *testing.T) {
	want := accepted(frame.First, 258)
	want.Twice, want.Beyond = 31, 1<<22-32
	if got := mail.Sort(7, repeated(1<<22, sent(frame.First, 7, 258))); got != want {
		t.Errorf("Sort = %v; want %v", got, want)
	}
	long := make(item, 1<<22)
	long[0], long[2] = 1, 2
	if got := mail.Sort(0, repeated(40, long)); got != (mail.Mail{Bad: 32, Beyond: 8}) {
		t.Errorf("Sort = %v", got)
	}
}
