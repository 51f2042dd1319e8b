package pulse_test

import (
	"math"
	"testing"

	"odograph/pulse"
)

const (
	least = math.MinInt64
	most  = math.MaxInt64
)

// scatter is a row of numbers, always the same one.
type scatter uint64

func (s *scatter) next() uint64 {
	*s = *s*6364136223846793005 + 1442695040888963407
	return uint64(*s ^ *s>>31)
}

// to is a number of the row from 0 to n - 1.
func (s *scatter) to(n int) int { return int(s.next() >> 8 % uint64(n)) }

// edges are the counts around which the way that is nearer, or the sign, changes.
func edges() []uint16 {
	var l []uint16
	for _, at := range []int{0, 128, 256, 16384, 32768, 49152, 65536} {
		for near := -4; near <= 4; near++ {
			l = append(l, uint16(residue(int64(at+near))))
		}
	}
	return l
}

// residue is a number modulo 65536 by counting on from a multiple of 65536 that is not above it.
func residue(count int64) int64 {
	floor := count / 65536
	if count < 0 && count%65536 != 0 {
		floor--
	}
	return count - floor*65536
}

// tryDelta holds Delta against the chapter: only one number of its range yields to when it is added.
func tryDelta(t *testing.T, from, to uint16) {
	t.Helper()
	d := pulse.Delta(from, to)
	if d < -32768 || d > 32767 || residue(int64(from)+d) != int64(to) {
		t.Errorf("Delta(%d, %d) = %d", from, to, d)
	}
}

// expected is Next's answer by the chapter.
func expected(c pulse.Counter, count int64, has bool) (pulse.Counter, int64, bool) {
	if !has {
		return pulse.Counter{Known: false, Last: c.Last, Sum: c.Sum}, 0, false
	}
	want := pulse.Counter{Known: true, Last: uint16(residue(count)), Sum: c.Sum}
	if !c.Known {
		return want, 0, false
	}
	d := residue(count) - int64(c.Last)
	if d > 32767 {
		d -= 65536
	} else if d < -32768 {
		d += 65536
	}
	switch {
	case d > 0 && c.Sum > most-d:
		want.Sum = most
	case d < 0 && c.Sum < least-d:
		want.Sum = least
	default:
		want.Sum += d
	}
	return want, d, true
}

// wantNext is Next's answer written out.
func wantNext(t *testing.T, c pulse.Counter, count int64, has bool, want pulse.Counter, pulses int64, known bool) {
	t.Helper()
	got, gotPulses, gotKnown := c.Next(count, has)
	if got != want || gotPulses != pulses || gotKnown != known {
		t.Errorf("%v.Next(%d, %t) = %v, %d, %t; want %v, %d, %t", c, count, has, got, gotPulses, gotKnown, want, pulses, known)
	}
}

// tryNext holds Next against the chapter.
func tryNext(t *testing.T, c pulse.Counter, count int64, has bool) {
	t.Helper()
	want, pulses, known := expected(c, count, has)
	wantNext(t, c, count, has, want, pulses, known)
}

// P9.1: numbers of pulses written out, the chapter's example first.
func TestDeltaWrittenOut(t *testing.T) {
	for _, c := range []struct {
		from, to uint16
		want     int64
	}{
		{65530, 4, 10},
		{4, 65530, -10},
		{0, 0, 0},
		{65535, 65535, 0},
		{32768, 32768, 0},
		{0, 1, 1},
		{1, 0, -1},
		{65535, 0, 1},
		{0, 65535, -1},
		{0, 32767, 32767},
		{32767, 0, -32767},
		{0, 32768, -32768},
		{32768, 0, -32768},
		{0, 32769, -32767},
		{32769, 0, 32767},
		{65535, 32766, 32767},
		{65535, 32767, -32768},
		{65535, 32768, -32767},
		{32767, 65534, 32767},
		{32767, 65535, -32768},
		{32768, 65535, 32767},
		{40000, 7231, 32767},
		{40000, 7232, -32768},
		{100, 356, 256},
		{356, 100, -256},
	} {
		if got := pulse.Delta(c.from, c.to); got != c.want {
			t.Errorf("Delta(%d, %d) = %d; want %d", c.from, c.to, got, c.want)
		}
	}
}

// P9.1: from each edge to every count, and from every count to each edge.
func TestDeltaNearEdges(t *testing.T) {
	for _, edge := range edges() {
		for count := range 65536 {
			tryDelta(t, edge, uint16(count))
			tryDelta(t, uint16(count), edge)
		}
	}
}

// P9.1: each number of pulses from -32768 to 32767 is found again, whatever the count was at which it began.
func TestDeltaOfEveryNumber(t *testing.T) {
	row := scatter(9)
	for d := int64(-32768); d <= 32767; d++ {
		for range 20 {
			from := row.to(65536)
			to := residue(int64(from) + d)
			if got := pulse.Delta(uint16(from), uint16(to)); got != d {
				t.Errorf("Delta(%d, %d) = %d; want %d", from, to, got, d)
			}
		}
	}
}

// P9.2: a counter from its beginning on, across the wrap, a gap, and back, written out.
func TestNextOneByOne(t *testing.T) {
	c := pulse.Counter{}
	for _, step := range []struct {
		count  int64
		has    bool
		want   pulse.Counter
		pulses int64
		known  bool
	}{
		{7, false, pulse.Counter{}, 0, false},
		{65530, true, pulse.Counter{Known: true, Last: 65530}, 0, false},
		{4, true, pulse.Counter{Known: true, Last: 4, Sum: 10}, 10, true},
		{4, true, pulse.Counter{Known: true, Last: 4, Sum: 10}, 0, true},
		{104, true, pulse.Counter{Known: true, Last: 104, Sum: 110}, 100, true},
		{65535, true, pulse.Counter{Known: true, Last: 65535, Sum: 5}, -105, true},
		{32766, true, pulse.Counter{Known: true, Last: 32766, Sum: 32772}, 32767, true},
		{9, false, pulse.Counter{Last: 32766, Sum: 32772}, 0, false},
		{0, false, pulse.Counter{Last: 32766, Sum: 32772}, 0, false},
		{32800, true, pulse.Counter{Known: true, Last: 32800, Sum: 32772}, 0, false},
		{32, true, pulse.Counter{Known: true, Last: 32, Sum: 4}, -32768, true},
		{33, true, pulse.Counter{Known: true, Last: 33, Sum: 5}, 1, true},
	} {
		wantNext(t, c, step.count, step.has, step.want, step.pulses, step.known)
		c, _, _ = c.Next(step.count, step.has)
	}
}

// P9.2: without a count, the counter is no longer known, and all else of it stays, whatever is passed as the count.
func TestNextWithoutCount(t *testing.T) {
	for _, known := range []bool{false, true} {
		for _, last := range []uint16{0, 1, 32767, 32768, 65535} {
			for _, sum := range []int64{least, -1, 0, 1, most} {
				for _, count := range []int64{least, -1, 0, 1, int64(last), 65536, most} {
					c := pulse.Counter{Known: known, Last: last, Sum: sum}
					wantNext(t, c, count, false, pulse.Counter{Last: last, Sum: sum}, 0, false)
				}
			}
		}
	}
}

// P9.2: a counter that is not known takes the count, and its Sum stays, whatever its Last is.
func TestNextWhenUnknown(t *testing.T) {
	for _, last := range edges() {
		for _, sum := range []int64{least, least + 1, -5, 0, 5, most - 1, most} {
			for _, count := range edges() {
				c := pulse.Counter{Last: last, Sum: sum}
				wantNext(t, c, int64(count), true, pulse.Counter{Known: true, Last: count, Sum: sum}, 0, false)
			}
		}
	}
}

// P9.2: a counter that is known adds the Delta from its Last.
func TestNextWhenKnown(t *testing.T) {
	for _, last := range edges() {
		for _, count := range edges() {
			for _, sum := range []int64{-100000, -1, 0, 1, 1 << 40} {
				d := pulse.Delta(last, count)
				c := pulse.Counter{Known: true, Last: last, Sum: sum}
				wantNext(t, c, int64(count), true, pulse.Counter{Known: true, Last: count, Sum: sum + d}, d, true)
			}
		}
	}
}

// P9.2: counts beyond 65535 and below 0 stand for their number modulo 65536, of which some are written out.
func TestNextModulo(t *testing.T) {
	for _, c := range []struct {
		count int64
		last  uint16
	}{
		{0, 0}, {65535, 65535}, {65536, 0}, {65537, 1}, {131071, 65535}, {131072, 0}, {1<<31 - 1, 65535}, {1 << 31, 0}, {1<<32 + 7, 7},
		{-1, 65535}, {-2, 65534}, {-32767, 32769}, {-32768, 32768}, {-32769, 32767}, {-65535, 1}, {-65536, 0}, {-65537, 65535}, {-1 << 31, 0}, {-1<<32 - 7, 65529},
		{most, 65535}, {most - 65535, 0}, {least, 0}, {least + 1, 1}, {least + 65535, 65535},
	} {
		wantNext(t, pulse.Counter{Last: 3, Sum: 9}, c.count, true, pulse.Counter{Known: true, Last: c.last, Sum: 9}, 0, false)
		d := pulse.Delta(3, c.last)
		wantNext(t, pulse.Counter{Known: true, Last: 3, Sum: 9}, c.count, true, pulse.Counter{Known: true, Last: c.last, Sum: 9 + d}, d, true)
	}
	for near := int64(-70000); near <= 70000; near++ {
		for _, at := range []int64{0, 1 << 31, -1 << 31, 1 << 62, -1 << 62} {
			tryNext(t, pulse.Counter{Known: true, Last: 40000}, at+near, true)
		}
	}
	for near := range int64(70000) {
		tryNext(t, pulse.Counter{Known: true, Last: 40000}, least+near, true)
		tryNext(t, pulse.Counter{Known: true, Last: 40000}, most-near, true)
	}
}

// P9.2: the Sum is held at the ends of 64 bits, while the number of pulses is still told, and leaves them again.
func TestNextAtTheEnds(t *testing.T) {
	for _, c := range []struct {
		sum    int64
		to     int64
		want   int64
		pulses int64
	}{
		{most, 0, most, 0},
		{most, 1, most, 1},
		{most, 32767, most, 32767},
		{most - 1, 1, most, 1},
		{most - 1, 2, most, 2},
		{most - 32767, 32767, most, 32767},
		{most - 32766, 32767, most, 32767},
		{most - 32768, 32767, most - 1, 32767},
		{most, -1, most - 1, -1},
		{most, -32768, most - 32768, -32768},
		{least, 0, least, 0},
		{least, -1, least, -1},
		{least, -32768, least, -32768},
		{least + 1, -1, least, -1},
		{least + 1, -2, least, -2},
		{least + 32768, -32768, least, -32768},
		{least + 32767, -32768, least, -32768},
		{least + 32769, -32768, least + 1, -32768},
		{least, 1, least + 1, 1},
		{least, 32767, least + 32767, 32767},
	} {
		for _, last := range edges() {
			to := uint16(residue(int64(last) + c.to))
			from := pulse.Counter{Known: true, Last: last, Sum: c.sum}
			wantNext(t, from, int64(to), true, pulse.Counter{Known: true, Last: to, Sum: c.want}, c.pulses, true)
		}
	}
}

// P9.2: scattered counters and counts of all lengths.
func TestNextScattered(t *testing.T) {
	row := scatter(92)
	for range 300000 {
		c := pulse.Counter{Known: row.to(4) > 0, Last: uint16(row.next()), Sum: int64(row.next()) >> row.to(64)}
		tryNext(t, c, int64(row.next())>>row.to(64), row.to(4) > 0)
	}
}

// P9.2: over a row of counts with gaps, the Sum is the total of all pulses that are known, at whichever count the counter began.
func TestSumOfARow(t *testing.T) {
	for _, begin := range edges() {
		row := scatter(93)
		c := pulse.Counter{}
		at, total := int64(begin), int64(0)
		known := false
		for range 2000 {
			moved := int64(row.to(65536)) - 32768
			at += moved
			has := row.to(5) > 0
			if has && known {
				total += moved
			}
			next, pulses, ok := c.Next(residue(at), has)
			if ok != (has && known) || ok && pulses != moved || !ok && pulses != 0 {
				t.Fatalf("%v.Next(%d, %t) tells %d, %t; the train moved by %d", c, residue(at), has, pulses, ok, moved)
			}
			if next.Sum != total {
				t.Fatalf("the sum from %d on is %d; want %d", begin, next.Sum, total)
			}
			c, known = next, has
		}
	}
}

// The document's rules: a counter is not changed, and a call's answer is the same each time.
func TestReceiver(t *testing.T) {
	for _, c := range []pulse.Counter{{}, {Known: true, Last: 65530, Sum: 7}, {Last: 9, Sum: -7}} {
		for _, has := range []bool{false, true} {
			kept := c
			first, pulses, known := c.Next(4, has)
			wantNext(t, c, 4, has, first, pulses, known)
			if c != kept {
				t.Errorf("the counter is %v after Next; it was %v", c, kept)
			}
		}
	}
}
