package image_test

import (
	"bytes"
	"encoding/binary"
	"encoding/hex"
	"math"
	"reflect"
	"slices"
	"strings"
	"testing"

	"odograph/api"
	"odograph/crc"
	"odograph/grade"
	"odograph/image"
	"odograph/track"
)

const (
	least = math.MinInt64
	most  = math.MaxInt64
)

// scatter is a row of numbers, always the same one.
type scatter uint64

func (s *scatter) next() uint64 {
	*s = *s*6364136223846793005 + 1442695040888963407
	return uint64(*s ^ *s>>31)
}

// to is a number of the row from 0 to n - 1.
func (s *scatter) to(n int) int { return int(s.next() >> 8 % uint64(n)) }

// level is one piece with a grade.
func level(g int64) []grade.Piece { return []grade.Piece{{Grade: g}} }

// one is a track of one segment of the length 1.
func one() track.Track {
	return track.Track{Segments: []track.Segment{{Length: 1, Pieces: level(0)}}}
}

// small is a track that has each number in some place, a switch and a dead end.
func small() track.Track {
	return track.Track{
		Segments: []track.Segment{
			{Length: 0x102030405, Pieces: []grade.Piece{{From: 0, Grade: 0x10203}, {From: 0x10203, Grade: -2}}, Next: []int{1, 2}},
			{Length: 16, Pieces: level(-1 << 20)},
			{Length: 1 << 40, Pieces: level(1 << 20), Next: []int{0}},
		},
		Groups: []track.Group{
			{Id: 0x102, Segment: 0, Offset: 0x102030405, Acc: 0x10203, Slack: 0x1000000},
			{Id: 0xFFFF, Segment: 2, Offset: 3, Acc: 1 << 20, Slack: 0x20304},
		},
	}
}

// greatest is a track with so many segments with so many pieces, and so many groups, all numbers different and near their ends.
func greatest(segments, pieces, groups int) track.Track {
	var t track.Track
	for i := range segments {
		s := track.Segment{Length: 1<<40 - int64(i)}
		for k := range pieces {
			s.Pieces = append(s.Pieces, grade.Piece{From: int64(k) << 34, Grade: (1<<20 - int64(i*64+k)) * int64(1-k%2*2)})
		}
		if i < segments-1 {
			s.Next = []int{i, segments - 1}
		}
		t.Segments = append(t.Segments, s)
	}
	for i := range groups {
		t.Groups = append(t.Groups, track.Group{Id: 65535 - groups + 1 + i, Segment: i % segments, Offset: 1<<40 - 200 - int64(i), Acc: 1<<20 - int64(i), Slack: 1<<24 - int64(i)})
	}
	return t
}

// body is what an image of a track has ahead of its checksum, written by the chapter, whether the track is valid or not.
func body(t track.Track) []byte {
	b := []byte("ODO1")
	b = binary.BigEndian.AppendUint16(b, uint16(len(t.Segments)))
	for _, s := range t.Segments {
		b = binary.BigEndian.AppendUint64(b, uint64(s.Length))
		b = append(b, byte(len(s.Pieces)))
		for _, p := range s.Pieces {
			b = binary.BigEndian.AppendUint64(b, uint64(p.From))
			b = binary.BigEndian.AppendUint32(b, uint32(p.Grade))
		}
		b = append(b, byte(len(s.Next)))
		for _, n := range s.Next {
			b = append(b, byte(n))
		}
	}
	b = binary.BigEndian.AppendUint16(b, uint16(len(t.Groups)))
	for _, g := range t.Groups {
		b = binary.BigEndian.AppendUint16(b, uint16(g.Id))
		b = append(b, byte(g.Segment))
		b = binary.BigEndian.AppendUint64(b, uint64(g.Offset))
		b = binary.BigEndian.AppendUint32(b, uint32(g.Acc))
		b = binary.BigEndian.AppendUint32(b, uint32(g.Slack))
	}
	return b
}

// unhex is the bytes of digits with spaces between.
func unhex(t *testing.T, digits string) []byte {
	t.Helper()
	b, err := hex.DecodeString(strings.ReplaceAll(digits, " ", ""))
	if err != nil {
		t.Fatal(err)
	}
	return b
}

// same tells whether two tracks are the same, nil lists as empty ones.
func same(a, b track.Track) bool {
	return slices.Equal(a.Groups, b.Groups) && slices.EqualFunc(a.Segments, b.Segments, func(s, u track.Segment) bool {
		return s.Length == u.Length && slices.Equal(s.Pieces, u.Pieces) && slices.Equal(s.Next, u.Next)
	})
}

// wantPack is Pack's answer written out.
func wantPack(t *testing.T, tr track.Track, want []byte, e api.Errno) {
	t.Helper()
	if b, err := image.Pack(tr); err != e || !bytes.Equal(b, want) {
		t.Errorf("Pack of %v = % x, %d; want % x, %d", short(tr), cut(b), err, cut(want), e)
	}
}

// wantOpen is Open's answer written out.
func wantOpen(t *testing.T, b []byte, want track.Track, e api.Errno) {
	t.Helper()
	if tr, err := image.Open(b); err != e || !same(tr, want) {
		t.Errorf("Open of % x = %v, %d; want %v, %d", cut(b), short(tr), err, short(want), e)
	}
}

// wantNone is an error of Open.
func wantNone(t *testing.T, b []byte, e api.Errno) {
	t.Helper()
	wantOpen(t, b, track.Track{}, e)
}

// short is a track that is shown, if it is not too long for that.
func short(tr track.Track) any {
	if len(tr.Segments)+len(tr.Groups) > 20 {
		return struct{ segments, groups int }{len(tr.Segments), len(tr.Groups)}
	}
	return tr
}

// cut is the beginning of some bytes.
func cut(b []byte) []byte { return b[:min(len(b), 200)] }

// P12.1: the chapter's example: 32 bytes.
func TestPackExample(t *testing.T) {
	b, err := image.Pack(one())
	if err != api.OK || len(b) != 32 {
		t.Errorf("Pack of %v = % x, %d; want 32 bytes", one(), b, err)
	}
	want := unhex(t, "4f 44 4f 31  00 01  00 00 00 00 00 00 00 01  01  00 00 00 00 00 00 00 00 00 00 00 00  00  00 00")
	wantPack(t, one(), crc.Seal(want), api.OK)
	wantOpen(t, crc.Seal(want), one(), api.OK)
}

// P12.1, P12.2: an image written out.
func TestWrittenOut(t *testing.T) {
	b := crc.Seal(unhex(t, "4f 44 4f 31 0003"+
		"0000000102030405 02 0000000000000000 00010203 0000000000010203 fffffffe 02 01 02"+
		"0000000000000010 01 0000000000000000 fff00000 00"+
		"0000010000000000 01 0000000000000000 00100000 01 00"+
		"0002"+
		"0102 00 0000000102030405 00010203 01000000"+
		"ffff 02 0000000000000003 00100000 00020304"))
	wantPack(t, small(), b, api.OK)
	wantOpen(t, b, small(), api.OK)
}

// P12.1, P12.2: the checksum is that of all bytes ahead of it, its higher byte first.
func TestChecksum(t *testing.T) {
	for _, tr := range []track.Track{one(), small(), greatest(3, 2, 5)} {
		b, _ := image.Pack(tr)
		n := len(b) - 2
		if sum := crc.Sum(b[:n]); b[n] != byte(sum>>8) || b[n+1] != byte(sum) {
			t.Errorf("the checksum of % x is not %04x", b, sum)
		}
	}
}

// sizes are numbers of segments, pieces and groups up to the greatest ones.
func sizes() [][3]int {
	l := [][3]int{{200, 64, 400}, {200, 64, 0}, {200, 1, 400}, {199, 63, 399}, {1, 64, 400}, {1, 1, 400}}
	for segments := 1; segments <= 200; segments += 1 + segments/4 {
		for _, pieces := range []int{1, 2, 3, 63, 64} {
			for _, groups := range []int{0, 1, 2, 255, 256, 400} {
				l = append(l, [3]int{segments, pieces, groups})
			}
		}
	}
	return l
}

// P12.1, P12.2: tracks of all sizes, to bytes and back.
func TestSizes(t *testing.T) {
	for _, n := range sizes() {
		tr := greatest(n[0], n[1], n[2])
		b := crc.Seal(body(tr))
		wantPack(t, tr, b, api.OK)
		wantOpen(t, b, tr, api.OK)
		if want := 10 + n[0]*(10+12*n[1]) + 2*(n[0]-1) + 19*n[2]; len(b) != want {
			t.Errorf("%v has %d bytes; want %d", n, len(b), want)
		}
	}
}

// changes are each number of small, changed to what it may be, and to what it may not be though its bytes can be written.
func changes() []struct {
	change func(tr *track.Track, x int64)
	in     []int64
	out    []int64
} {
	type change = func(tr *track.Track, x int64)
	return []struct {
		change  change
		in, out []int64
	}{
		{func(tr *track.Track, x int64) { tr.Segments[0].Length = x }, []int64{0x102030405, 1 << 33, 1<<40 - 1, 1 << 40}, []int64{0, 1, 0x10203, 0x102030404, 1<<40 + 1, 1 << 62, most, -1, least}},
		{func(tr *track.Track, x int64) { tr.Segments[1].Length = x }, []int64{1, 2, 255, 256, 1 << 32, 1 << 40}, []int64{0, 1<<40 + 1, 1 << 48, most, -1, -256, least}},
		{func(tr *track.Track, x int64) { tr.Segments[0].Pieces[0].From = x }, []int64{0}, []int64{1, 256, 1 << 32, most, -1, least}},
		{func(tr *track.Track, x int64) { tr.Segments[0].Pieces[1].From = x }, []int64{1, 255, 256, 1 << 32, 0x102030404}, []int64{0, -1, least, 0x102030405, 1 << 40, most}},
		{func(tr *track.Track, x int64) { tr.Segments[0].Pieces[1].Grade = x }, []int64{0, 1, 127, 128, 255, 256, 65535, 1 << 20, -1, -128, -129, -256, -257, -65536, -1 << 20}, []int64{1<<20 + 1, -1<<20 - 1, 1 << 30, math.MaxInt32, math.MinInt32}},
		{func(tr *track.Track, x int64) { tr.Segments[0].Next[0] = int(x) }, []int64{0, 1}, []int64{2, 3, 199, 255}},
		{func(tr *track.Track, x int64) { tr.Segments[0].Next[1] = int(x) }, []int64{2}, []int64{0, 1, 3, 127, 128, 255}},
		{func(tr *track.Track, x int64) { tr.Segments[2].Next[0] = int(x) }, []int64{0, 1, 2}, []int64{3, 128, 200, 255}},
		{func(tr *track.Track, x int64) { tr.Groups[0].Id = int(x) }, []int64{1, 127, 128, 255, 256, 32767, 32768, 65534}, []int64{0, 65535}},
		{func(tr *track.Track, x int64) { tr.Groups[1].Id = int(x) }, []int64{0x103, 32767, 32768, 65534, 65535}, []int64{0, 1, 0x101, 0x102}},
		{func(tr *track.Track, x int64) { tr.Groups[1].Segment = int(x) }, []int64{0, 1, 2}, []int64{3, 127, 128, 200, 255}},
		{func(tr *track.Track, x int64) { tr.Groups[0].Offset = x }, []int64{0, 1, 255, 256, 0x102030404}, []int64{0x102030406, 1 << 40, most, -1, least}},
		{func(tr *track.Track, x int64) { tr.Groups[1].Offset = x }, []int64{0, 1 << 32, 1 << 40}, []int64{1<<40 + 1, most, -1, -256, least}},
		{func(tr *track.Track, x int64) { tr.Groups[0].Acc = x }, []int64{0, 1, 255, 256, 65536, 1 << 20}, []int64{1<<20 + 1, 1 << 31, math.MaxUint32}},
		{func(tr *track.Track, x int64) { tr.Groups[1].Slack = x }, []int64{0, 1, 255, 256, 65536, 1 << 24}, []int64{1<<24 + 1, 1 << 31, math.MaxUint32}},
	}
}

// P12.1, P12.2: each number of a track in its range, and beyond it.
func TestNumbers(t *testing.T) {
	for _, c := range changes() {
		tr := small()
		for _, x := range c.in {
			c.change(&tr, x)
			b := crc.Seal(body(tr))
			wantPack(t, tr, b, api.OK)
			wantOpen(t, b, tr, api.OK)
		}
		for _, x := range c.out {
			c.change(&tr, x)
			wantPack(t, tr, nil, api.ErrTrack)
			wantNone(t, crc.Seal(body(tr)), api.ErrTrack)
		}
	}
}

// P12.1: tracks that are not valid have no image, those neither whose numbers no bytes hold.
func TestPackNotValid(t *testing.T) {
	for _, change := range []func(tr *track.Track){
		func(tr *track.Track) { *tr = track.Track{} },
		func(tr *track.Track) { tr.Segments = nil },
		func(tr *track.Track) { tr.Segments = make([]track.Segment, 3) },
		func(tr *track.Track) { tr.Segments = greatest(201, 1, 0).Segments },
		func(tr *track.Track) { tr.Segments = make([]track.Segment, 1<<16+3) },
		func(tr *track.Track) { tr.Segments[1].Pieces = nil },
		func(tr *track.Track) { tr.Segments[0].Pieces = greatest(1, 65, 0).Segments[0].Pieces },
		func(tr *track.Track) { tr.Segments[0].Pieces = make([]grade.Piece, 257) },
		func(tr *track.Track) { tr.Segments[0].Pieces[0].Grade = 1<<32 + 5 },
		func(tr *track.Track) { tr.Segments[0].Next = []int{0, 1, 2} },
		func(tr *track.Track) { tr.Segments[0].Next = []int{256} },
		func(tr *track.Track) { tr.Segments[0].Next = []int{-255} },
		func(tr *track.Track) { tr.Segments[0].Next = make([]int, 256) },
		func(tr *track.Track) { tr.Groups = make([]track.Group, 401) },
		func(tr *track.Track) { tr.Groups = greatest(3, 1, 401).Groups },
		func(tr *track.Track) { tr.Groups[1].Id = 65536 + 300 },
		func(tr *track.Track) { tr.Groups[1].Id = -1 },
		func(tr *track.Track) { tr.Groups[0].Segment = 256 },
		func(tr *track.Track) { tr.Groups[0].Segment = -256 },
		func(tr *track.Track) { tr.Groups[0].Acc = 1<<32 + 1 },
		func(tr *track.Track) { tr.Groups[0].Acc = -1 },
		func(tr *track.Track) { tr.Groups[0].Slack = 1 << 32 },
		func(tr *track.Track) { tr.Groups[0].Slack = -1 },
	} {
		tr := small()
		change(&tr)
		wantPack(t, tr, nil, api.ErrTrack)
	}
}

// P12.2: more than MaxImage bytes are too long, whatever they are.
func TestOpenLong(t *testing.T) {
	const limit = 1 << 20
	for _, n := range []int{limit - 1, limit, limit + 1, limit + 2, 2 * limit} {
		padded := make([]byte, n-2)
		copy(padded, body(small()))
		garbled := crc.Seal(padded)
		garbled[n-1]++
		for _, c := range []struct {
			b []byte
			e api.Errno
		}{{crc.Seal(padded), api.ErrShort}, {garbled, api.ErrSum}, {make([]byte, n), api.ErrForm}} {
			if n > limit {
				c.e = api.ErrLong
			}
			wantNone(t, c.b, c.e)
		}
	}
}

// P12.2: fewer than 6 bytes, or such as do not begin with the four.
func TestOpenForm(t *testing.T) {
	whole, _ := image.Pack(small())
	wantNone(t, nil, api.ErrForm)
	wantNone(t, []byte{}, api.ErrForm)
	for n := range 6 {
		wantNone(t, whole[:n], api.ErrForm)
		wantNone(t, make([]byte, n), api.ErrForm)
		if n >= 2 {
			wantNone(t, crc.Seal(whole[:n-2]), api.ErrForm)
		}
	}
	for at := range 4 {
		for x := 1; x < 256; x++ {
			other := body(small())
			other[at] ^= byte(x)
			wantNone(t, crc.Seal(other), api.ErrForm)
			wantNone(t, append(other, 0, 0), api.ErrForm)
		}
	}
	for _, text := range []string{"", "ODO", "ODO2", "odo1", "1ODO", "DO1O", "\x00ODO1"} {
		wantNone(t, crc.Seal(append([]byte(text), body(one())[4:]...)), api.ErrForm)
	}
}

// P12.2: six bytes are enough for a sum, but not for a track.
func TestOpenSixBytes(t *testing.T) {
	b := crc.Seal([]byte("ODO1"))
	wantNone(t, b, api.ErrShort)
	for sum := range 1 << 16 {
		if sum != int(crc.Sum([]byte("ODO1"))) {
			wantNone(t, append([]byte("ODO1"), byte(sum>>8), byte(sum)), api.ErrSum)
		}
	}
}

// P12.2: a byte behind the first four is another one, or one of the checksum is.
func TestOpenSum(t *testing.T) {
	whole, _ := image.Pack(small())
	for at := 4; at < len(whole); at++ {
		for x := 1; x < 256; x++ {
			b := slices.Clone(whole)
			b[at] ^= byte(x)
			wantNone(t, b, api.ErrSum)
		}
	}
	n := len(whole)
	wantNone(t, append(slices.Clone(whole[:n-2]), whole[n-1], whole[n-2]), api.ErrSum)
	// A wrong sum is told ahead of what is wrong with the numbers.
	for _, b := range [][]byte{whole[:n-1], whole[:n-2], whole[:8], append(slices.Clone(whole), 1), append(body(track.Track{}), 0, 0), append(body(one())[:20], 1, 2)} {
		wantNone(t, b, api.ErrSum)
	}
}

// P12.2: numbers that go beyond the bytes ahead of the checksum, or end before them, wherever it is.
func TestOpenShort(t *testing.T) {
	for _, tr := range []track.Track{one(), small(), greatest(2, 2, 2)} {
		b := body(tr)
		for n := 4; n < len(b); n++ {
			wantNone(t, crc.Seal(b[:n]), api.ErrShort)
		}
		for more := 1; more < 40; more++ {
			wantNone(t, crc.Seal(append(slices.Clone(b), make([]byte, more)...)), api.ErrShort)
		}
		wantNone(t, crc.Seal(append(slices.Clone(b), b...)), api.ErrShort)
		wantNone(t, crc.Seal(crc.Seal(b)), api.ErrShort)
	}
}

// P12.2: counts above their limits, with all items that they count.
func TestOpenCounts(t *testing.T) {
	for _, n := range []int{201, 202, 255, 256, 257, 400, 1000} {
		wantNone(t, crc.Seal(body(greatest(n, 1, 0))), api.ErrShort)
	}
	for _, n := range []int{401, 402, 512, 513, 1000, 32767, 32768, 40000} {
		wantNone(t, crc.Seal(body(greatest(2, 1, n))), api.ErrShort)
	}
	for _, n := range []int{65, 66, 127, 128, 129, 200, 255} {
		for i := range 3 {
			tr := small()
			tr.Segments[i].Pieces = greatest(1, n, 0).Segments[0].Pieces
			wantNone(t, crc.Seal(body(tr)), api.ErrShort)
		}
	}
	for _, n := range []int{3, 4, 5, 127, 128, 200, 255} {
		for i := range 3 {
			tr := small()
			tr.Segments[i].Next = make([]int, n)
			wantNone(t, crc.Seal(body(tr)), api.ErrShort)
		}
	}
	// Counts of so many bytes that no items of theirs lie behind.
	for _, count := range []string{"00c9", "0100", "7fff", "8000", "8001", "ffff"} {
		wantNone(t, crc.Seal(append([]byte("ODO1"), unhex(t, count)...)), api.ErrShort)
		wantNone(t, crc.Seal(append([]byte("ODO1"), unhex(t, count+"0000")...)), api.ErrShort)
	}
}

// P12.2: what is short is told ahead of what is not valid.
func TestOpenShortFirst(t *testing.T) {
	for _, tr := range []track.Track{{}, {Segments: make([]track.Segment, 2)}, {Groups: make([]track.Group, 2)}, {Segments: make([]track.Segment, 1), Groups: make([]track.Group, 3)}} {
		b := body(tr)
		wantNone(t, crc.Seal(b), api.ErrTrack)
		wantNone(t, crc.Seal(b[:len(b)-1]), api.ErrShort)
		wantNone(t, crc.Seal(append(b, 0)), api.ErrShort)
	}
	tr := small()
	tr.Segments[0].Length = 0
	tr.Segments[2].Next = []int{0, 0, 0}
	wantNone(t, crc.Seal(body(tr)), api.ErrShort)
}

// P12.2: lists that a valid track does not have, though their counts are not above the limits.
func TestOpenNotValid(t *testing.T) {
	for _, change := range []func(tr *track.Track){
		func(tr *track.Track) { *tr = track.Track{} },
		func(tr *track.Track) { tr.Segments, tr.Groups = nil, nil },
		func(tr *track.Track) { tr.Segments = nil },
		func(tr *track.Track) { tr.Segments = make([]track.Segment, 200) },
		func(tr *track.Track) { tr.Segments[0].Pieces = nil },
		func(tr *track.Track) { tr.Segments[2].Pieces = nil },
		func(tr *track.Track) { tr.Segments[1].Pieces = make([]grade.Piece, 64) },
		func(tr *track.Track) { tr.Segments[1].Next = []int{1, 1} },
		func(tr *track.Track) { tr.Segments[1].Next = []int{2, 1} },
		func(tr *track.Track) { tr.Groups = make([]track.Group, 400) },
		func(tr *track.Track) { tr.Groups[0], tr.Groups[1] = tr.Groups[1], tr.Groups[0] },
		func(tr *track.Track) { tr.Groups[1] = tr.Groups[0] },
	} {
		tr := small()
		change(&tr)
		wantNone(t, crc.Seal(body(tr)), api.ErrTrack)
		wantPack(t, tr, nil, api.ErrTrack)
	}
}

// taken is what is left of some bytes, and how they were read so far.
type taken struct {
	b  []byte
	ok bool
}

// take is a number of n bytes, without a sign.
func (x *taken) take(n int) uint64 {
	if !x.ok || len(x.b) < n {
		x.ok = false
		return 0
	}
	var eight [8]byte
	copy(eight[8-n:], x.b)
	x.b = x.b[n:]
	return binary.BigEndian.Uint64(eight[:])
}

// count is a count of n bytes, of at most so many items.
func (x *taken) count(n, limit int) int {
	c := int(x.take(n))
	x.ok = x.ok && c <= limit
	if !x.ok {
		return 0
	}
	return c
}

// expectedOpen is Open's answer by the chapter.
func expectedOpen(b []byte) (track.Track, api.Errno) {
	switch n := len(b); {
	case n > 1<<20:
		return track.Track{}, api.ErrLong
	case n < 6 || string(b[:4]) != "ODO1":
		return track.Track{}, api.ErrForm
	case binary.BigEndian.Uint16(b[n-2:]) != crc.Sum(b[:n-2]):
		return track.Track{}, api.ErrSum
	}
	x := taken{b[4 : len(b)-2], true}
	var t track.Track
	for range x.count(2, 200) {
		s := track.Segment{Length: int64(x.take(8))}
		for range x.count(1, 64) {
			from := int64(x.take(8))
			s.Pieces = append(s.Pieces, grade.Piece{From: from, Grade: int64(int32(x.take(4)))})
		}
		for range x.count(1, 2) {
			s.Next = append(s.Next, int(x.take(1)))
		}
		t.Segments = append(t.Segments, s)
	}
	for range x.count(2, 400) {
		var g track.Group
		g.Id, g.Segment = int(x.take(2)), int(x.take(1))
		g.Offset, g.Acc, g.Slack = int64(x.take(8)), int64(x.take(4)), int64(x.take(4))
		t.Groups = append(t.Groups, g)
	}
	if !x.ok || len(x.b) > 0 {
		return track.Track{}, api.ErrShort
	}
	if err, _ := t.Check(); err != api.OK {
		return track.Track{}, api.ErrTrack
	}
	return t, api.OK
}

// tryOpen holds Open against the chapter; what it opens has just these bytes.
func tryOpen(t *testing.T, b []byte) api.Errno {
	t.Helper()
	want, e := expectedOpen(b)
	wantOpen(t, b, want, e)
	if e == api.OK {
		wantPack(t, want, b, api.OK)
	}
	return e
}

// P12.2: each byte of some images is each other one, with the checksum of that.
func TestOpenEachByte(t *testing.T) {
	seen := map[api.Errno]int{}
	for _, tr := range []track.Track{one(), small()} {
		b := body(tr)
		for at := range b {
			for x := range 256 {
				kept := b[at]
				b[at] = byte(x)
				seen[tryOpen(t, crc.Seal(b))]++
				b[at] = kept
			}
		}
	}
	for _, e := range []api.Errno{api.OK, api.ErrForm, api.ErrShort, api.ErrTrack} {
		if seen[e] < 1000 {
			t.Errorf("%d images have the error %d", seen[e], e)
		}
	}
}

// scattered is a valid track, or nearly so.
func scattered(row *scatter) track.Track {
	var tr track.Track
	segments := 1 + row.to(6)
	for i := range segments {
		s := track.Segment{Length: 100 + int64(row.next()>>(24+row.to(39)))}
		for from := int64(0); len(s.Pieces) < 1+row.to(5) && from < s.Length; from += 1 + int64(row.next()>>(24+row.to(39))) {
			s.Pieces = append(s.Pieces, grade.Piece{From: from, Grade: int64(row.next()) % (1<<20 + 1) >> row.to(20)})
		}
		if i > 0 && row.to(3) > 0 {
			s.Next = append(s.Next, row.to(i))
		}
		if row.to(3) > 0 {
			s.Next = append(s.Next, i+row.to(segments-i))
		}
		tr.Segments = append(tr.Segments, s)
	}
	for id := 1 + row.to(300); id < 1<<16 && len(tr.Groups) < row.to(8); id += 1 + row.to(20000) {
		g := track.Group{Id: id, Segment: row.to(segments), Acc: int64(row.to(1<<20 + 1)), Slack: int64(row.to(1<<24 + 1))}
		g.Offset = int64(row.next()>>1) % (tr.Segments[g.Segment].Length + 1)
		tr.Groups = append(tr.Groups, g)
	}
	return tr
}

// P12.1, P12.2: scattered tracks, to bytes and back.
func TestScattered(t *testing.T) {
	row := scatter(12)
	packed := 0
	for range 20000 {
		tr := scattered(&row)
		b := crc.Seal(body(tr))
		err, _ := tr.Check()
		if err != api.OK {
			wantPack(t, tr, nil, api.ErrTrack)
			wantNone(t, b, api.ErrTrack)
			continue
		}
		packed++
		wantPack(t, tr, b, api.OK)
		wantOpen(t, b, tr, api.OK)
	}
	if packed < 10000 {
		t.Errorf("only %d tracks are valid", packed)
	}
}

// P12.2: scattered tracks of whose bytes some are changed, cut out or put in.
func TestOpenScattered(t *testing.T) {
	row := scatter(122)
	for range 50000 {
		b := body(scattered(&row))
		for range 1 + row.to(3) {
			at := 4 + row.to(len(b)-4)
			switch row.to(4) {
			case 0:
				b = slices.Delete(b, at, min(at+1+row.to(20), len(b)))
			case 1:
				b = slices.Insert(b, at, make([]byte, 1+row.to(20))...)
			default:
				b[at] = byte(row.to(256) >> row.to(8))
			}
			if len(b) < 6 {
				break
			}
		}
		tryOpen(t, crc.Seal(b))
	}
}

// P1: all bytes end, too, without a panic.
func TestAnyBytes(t *testing.T) {
	row := scatter(123)
	for range 20000 {
		b := make([]byte, row.to(200))
		for i := range b {
			b[i] = byte(row.to(256) >> row.to(8))
		}
		tryOpen(t, b)
		tryOpen(t, crc.Seal(b))
		tryOpen(t, crc.Seal(append([]byte("ODO1"), b...)))
	}
	for _, n := range []int{1<<20 - 2, 1<<20 - 6, 1 << 22} {
		tryOpen(t, crc.Seal(append([]byte("ODO1"), bytes.Repeat([]byte{1}, n-4)...)))
		tryOpen(t, make([]byte, n))
	}
}

// P1: all tracks end, too, without a panic.
func TestAnyTracks(t *testing.T) {
	numbers := []int64{least, -1 << 32, -1, 0, 1, 255, 1 << 20, 1 << 40, most}
	for _, x := range numbers {
		for _, y := range numbers {
			tr := track.Track{
				Segments: []track.Segment{{Length: x, Pieces: []grade.Piece{{From: y, Grade: x}, {From: x, Grade: y}}, Next: []int{int(x), int(y)}}, {}},
				Groups:   []track.Group{{Id: int(x), Segment: int(y), Offset: x, Acc: y, Slack: x}, {}},
			}
			wantPack(t, tr, nil, api.ErrTrack)
		}
	}
	wantPack(t, track.Track{Segments: make([]track.Segment, 1<<20), Groups: make([]track.Group, 1<<20)}, nil, api.ErrTrack)
}

// The document's rules: nil and empty lists are the same.
func TestEmptyLists(t *testing.T) {
	want, _ := image.Pack(one())
	empty := one()
	empty.Segments[0].Next, empty.Groups = []int{}, []track.Group{}
	wantPack(t, empty, want, api.OK)
	wantPack(t, track.Track{Segments: []track.Segment{}, Groups: []track.Group{}}, nil, api.ErrTrack)
}

// The document's rules: neither bytes nor tracks are changed, nor what lies behind them.
func TestArguments(t *testing.T) {
	row := scatter(124)
	for range 300 {
		tr := scattered(&row)
		for i := range tr.Segments {
			tr.Segments[i].Pieces = append(tr.Segments[i].Pieces, grade.Piece{From: 9, Grade: 9})[:len(tr.Segments[i].Pieces)]
			tr.Segments[i].Next = append(tr.Segments[i].Next, 9)[:len(tr.Segments[i].Next)]
		}
		kept := deep(tr)
		image.Pack(tr)
		if !reflect.DeepEqual(deep(tr), kept) {
			t.Errorf("the track is %v; it was %v", deep(tr), kept)
		}
		whole := append(crc.Seal(body(tr)), 1, 2, 3, 4)
		before := slices.Clone(whole)
		image.Open(whole[:len(whole)-4])
		if !bytes.Equal(whole, before) {
			t.Errorf("the bytes are % x; they were % x", whole, before)
		}
	}
}

// deep is a track that shares nothing with another one, with what lies behind its lists.
func deep(tr track.Track) track.Track {
	segments := slices.Clone(tr.Segments)
	for i, s := range segments {
		segments[i].Pieces = slices.Clone(s.Pieces[:cap(s.Pieces)])
		segments[i].Next = slices.Clone(s.Next[:cap(s.Next)])
	}
	return track.Track{Segments: segments, Groups: slices.Clone(tr.Groups)}
}

// The document's rules: bytes that are packed are new ones each time.
func TestPackNew(t *testing.T) {
	first, _ := image.Pack(small())
	kept := slices.Clone(first)
	second, _ := image.Pack(small())
	for i := range second {
		second[i] = 0
	}
	_ = append(first[:len(first):cap(first)], 7)
	third, _ := image.Pack(small())
	if !bytes.Equal(first, kept) || !bytes.Equal(third, kept) {
		t.Errorf("the bytes are % x and % x; want % x", first, third, kept)
	}
}

// The document's rules: a track that is opened shares nothing with the bytes, and no list of it grows into another one.
func TestOpenNew(t *testing.T) {
	b, _ := image.Pack(greatest(5, 3, 4))
	first, _ := image.Open(b)
	second, _ := image.Open(b)
	clear(b)
	if !same(first, greatest(5, 3, 4)) {
		t.Errorf("the track is %v", first)
	}
	for i := range first.Segments {
		_ = append(first.Segments[i].Pieces, grade.Piece{From: -7, Grade: -7})
		_ = append(first.Segments[i].Next, -7)
	}
	if !same(first, greatest(5, 3, 4)) {
		t.Errorf("the track is %v", first)
	}
	clear(first.Segments)
	clear(first.Groups)
	if !same(second, greatest(5, 3, 4)) {
		t.Errorf("the other track is %v", second)
	}
}
