package frame_test

import (
	"bytes"
	"encoding/binary"
	"math"
	"slices"
	"testing"

	"odograph/api"
	"odograph/crc"
	"odograph/frame"
)

// scatter is a row of numbers, always the same one.
type scatter uint64

func (s *scatter) next() uint64 {
	*s = *s*6364136223846793005 + 1442695040888963407
	return uint64(*s ^ *s>>31)
}

// bytes are n bytes of the row.
func (s *scatter) bytes(n int) []byte {
	b := make([]byte, n)
	for i := range b {
		b[i] = byte(s.next() >> 8)
	}
	return b
}

// rule is what the chapter says of a Kind's Value.
type rule struct {
	size   int
	lo, hi int64
}

// rules calls f with what the chapter says of each Kind, by the numbers that it gives them.
func rules(f func(kind int, r rule)) {
	for kind := 1; kind <= 5; kind++ {
		r, _ := ruleOf(kind)
		f(kind, r)
	}
}

func ruleOf(kind int) (rule, bool) {
	switch kind {
	case 1, 2, 5:
		return rule{2, 0, 65535}, true
	case 3, 4:
		return rule{4, -2147483648, 2147483647}, true
	}
	return rule{}, false
}

// written is the bytes of a frame, whose numbers are in their ranges, from the library.
func written(f frame.Frame) []byte {
	r, _ := ruleOf(f.Kind)
	b := []byte{byte(f.Kind), byte(f.Seq), byte(r.size)}
	if r.size == 2 {
		b = binary.BigEndian.AppendUint16(b, uint16(f.Value))
	} else {
		b = binary.BigEndian.AppendUint32(b, uint32(int32(f.Value)))
	}
	return binary.BigEndian.AppendUint16(b, crc.Sum(b))
}

// putError is what P7.1 says of the numbers of a frame.
func putError(f frame.Frame) api.Errno {
	r, ok := ruleOf(f.Kind)
	if !ok {
		return api.ErrKind
	}
	if f.Seq < 0 || f.Seq > 255 || f.Value < r.lo || f.Value > r.hi {
		return api.ErrRange
	}
	return api.OK
}

// getError is what P7.2 says of some bytes.
func getError(b []byte) api.Errno {
	if len(b) < 5 {
		return api.ErrShort
	}
	r, ok := ruleOf(int(b[0]))
	if !ok {
		return api.ErrKind
	}
	if b[2] != byte(r.size) || len(b) != 5+r.size {
		return api.ErrForm
	}
	if binary.BigEndian.Uint16(b[3+r.size:]) != crc.Sum(b[:3+r.size]) {
		return api.ErrSum
	}
	return api.OK
}

// tryPut holds Put, and Get of what it returns, against the chapter.
func tryPut(t *testing.T, f frame.Frame) {
	t.Helper()
	b, err := frame.Put(f)
	if want := putError(f); err != want {
		t.Errorf("Put(%v): %d; want %d", f, err, want)
		return
	}
	if err != api.OK {
		if len(b) != 0 {
			t.Errorf("Put(%v) = %x, %d; want no bytes", f, b, err)
		}
		return
	}
	if want := written(f); !bytes.Equal(b, want) {
		t.Errorf("Put(%v) = %x; want %x", f, b, want)
	}
	if got, err := frame.Get(b); err != api.OK || got != f {
		t.Errorf("Get(%x) = %v, %d; want %v", b, got, err, f)
	}
}

// tryGet holds Get, and Put of what it returns, against the chapter.
func tryGet(t *testing.T, b []byte) {
	t.Helper()
	f, err := frame.Get(b)
	if want := getError(b); err != want {
		t.Errorf("Get(%x) = %v, %d; want %d", b, f, err, want)
		return
	}
	if err != api.OK {
		if f != (frame.Frame{}) {
			t.Errorf("Get(%x) = %v, %d; want the zero frame", b, f, err)
		}
		return
	}
	if got, err := frame.Put(f); err != api.OK || !bytes.Equal(got, b) {
		t.Errorf("Get(%x) = %v, whose bytes are %x, %d", b, f, got, err)
	}
}

// wantGet is Get's answer written out.
func wantGet(t *testing.T, b []byte, f frame.Frame, err api.Errno) {
	t.Helper()
	if got, gotErr := frame.Get(b); got != f || gotErr != err {
		t.Errorf("Get(%x) = %v, %d; want %v, %d", b, got, gotErr, f, err)
	}
}

// refused is Get's answer where there is no frame.
func refused(t *testing.T, b []byte, err api.Errno) {
	t.Helper()
	wantGet(t, b, frame.Frame{}, err)
}

// The numbers of the Kinds.
func TestKinds(t *testing.T) {
	got := []int{frame.First, frame.Second, frame.Radar, frame.Accel, frame.Balise}
	if want := []int{1, 2, 3, 4, 5}; !slices.Equal(got, want) {
		t.Errorf("the Kinds are %v; want %v", got, want)
	}
}

// P7.1 and P7.2: frames and their bytes written out, the chapter's first.
func TestWrittenOut(t *testing.T) {
	for _, c := range []struct {
		f frame.Frame
		b string
	}{
		{frame.Frame{Kind: frame.First, Seq: 7, Value: 258}, "\x01\x07\x02\x01\x02\x97\x63"},
		{frame.Frame{Kind: frame.First, Seq: 0, Value: 0}, "\x01\x00\x02\x00\x00\xd5\x3d"},
		{frame.Frame{Kind: frame.Second, Seq: 255, Value: 65535}, "\x02\xff\x02\xff\xff\x6d\x43"},
		{frame.Frame{Kind: frame.Second, Seq: 1, Value: 255}, "\x02\x01\x02\x00\xff\x53\xab"},
		{frame.Frame{Kind: frame.Balise, Seq: 5, Value: 1}, "\x05\x05\x02\x00\x01\xf0\x5f"},
		{frame.Frame{Kind: frame.Balise, Seq: 0, Value: 65535}, "\x05\x00\x02\xff\xff\x41\x34"},
		{frame.Frame{Kind: frame.Radar, Seq: 0, Value: 0}, "\x03\x00\x04\x00\x00\x00\x00\xa0\x4a"},
		{frame.Frame{Kind: frame.Radar, Seq: 255, Value: 2147483647}, "\x03\xff\x04\x7f\xff\xff\xff\xb0\x02"},
		{frame.Frame{Kind: frame.Radar, Seq: 0, Value: -1}, "\x03\x00\x04\xff\xff\xff\xff\x39\x85"},
		{frame.Frame{Kind: frame.Radar, Seq: 254, Value: -2}, "\x03\xfe\x04\xff\xff\xff\xfe\x38\xbb"},
		{frame.Frame{Kind: frame.Radar, Seq: 16, Value: -2147483648}, "\x03\x10\x04\x80\x00\x00\x00\x67\xf6"},
		{frame.Frame{Kind: frame.Radar, Seq: 7, Value: 65536}, "\x03\x07\x04\x00\x01\x00\x00\x5f\x3b"},
		{frame.Frame{Kind: frame.Radar, Seq: 7, Value: 65535}, "\x03\x07\x04\x00\x00\xff\xff\x75\x04"},
		{frame.Frame{Kind: frame.Accel, Seq: 7, Value: -65536}, "\x04\x07\x04\xff\xff\x00\x00\xf5\x8f"},
		{frame.Frame{Kind: frame.Accel, Seq: 128, Value: -2147483648}, "\x04\x80\x04\x80\x00\x00\x00\xb0\x16"},
		{frame.Frame{Kind: frame.Accel, Seq: 16, Value: 2147483647}, "\x04\x10\x04\x7f\xff\xff\xff\xe7\x7d"},
		{frame.Frame{Kind: frame.Accel, Seq: 1, Value: 255}, "\x04\x01\x04\x00\x00\x00\xff\xe2\x5e"},
		{frame.Frame{Kind: frame.Accel, Seq: 1, Value: 16909060}, "\x04\x01\x04\x01\x02\x03\x04\xf1\xad"},
		{frame.Frame{Kind: frame.Accel, Seq: 7, Value: 16973822}, "\x04\x07\x04\x01\x02\xff\xfe\x64\xb5"},
	} {
		if b, err := frame.Put(c.f); err != api.OK || string(b) != c.b {
			t.Errorf("Put(%v) = %x, %d; want %x", c.f, b, err, c.b)
		}
		wantGet(t, []byte(c.b), c.f, api.OK)
	}
}

// P7.1 and P7.2: every Kind with every Seq, at the edges of the Values.
func TestEverySeq(t *testing.T) {
	rules(func(kind int, r rule) {
		for seq := range 256 {
			for _, value := range []int64{r.lo, r.lo + 1, 0, 1, 127, 128, 255, 256, 32767, 32768, r.hi - 1, r.hi} {
				tryPut(t, frame.Frame{Kind: kind, Seq: seq, Value: value})
			}
		}
	})
}

// P7.1 and P7.2: all Values of two bytes, and of four bytes those near each bit, and scattered ones.
func TestEveryValue(t *testing.T) {
	row := scatter(7)
	rules(func(kind int, r rule) {
		for value := range int64(65536) {
			tryPut(t, frame.Frame{Kind: kind, Seq: int(value % 256), Value: value})
		}
		if r.size == 2 {
			return
		}
		for value := range int64(65536) {
			tryPut(t, frame.Frame{Kind: kind, Seq: int(value % 256), Value: -1 - value})
			tryPut(t, frame.Frame{Kind: kind, Seq: int(value % 256), Value: int64(int32(row.next()))})
		}
		for bit := range 31 {
			for near := int64(-2); near <= 2; near++ {
				tryPut(t, frame.Frame{Kind: kind, Seq: bit, Value: 1<<bit + near})
				tryPut(t, frame.Frame{Kind: kind, Seq: bit, Value: -1<<bit + near})
			}
		}
	})
}

// P7.1: numbers out of their ranges, also those whose lowest byte, or bytes, would be in them.
func TestPutOutOfRange(t *testing.T) {
	kinds := []int{math.MinInt, -255, -5, -1, 0, 1, 2, 3, 4, 5, 6, 7, 8, 255, 256, 257, 259, 261, 1<<32 + 1, math.MaxInt}
	seqs := []int{math.MinInt, -256, -255, -1, 0, 255, 256, 257, 512, 1 << 32, math.MaxInt}
	values := []int64{
		math.MinInt64, -1 << 32, -1<<32 + 1, math.MinInt32 - 1, math.MinInt32, -65536, -65535, -1, 0, 1,
		65535, 65536, 65537, math.MaxInt32, math.MaxInt32 + 1, math.MaxUint32, 1 << 32, 1<<32 + 1, math.MaxInt64,
	}
	for _, kind := range kinds {
		for _, seq := range seqs {
			for _, value := range values {
				tryPut(t, frame.Frame{Kind: kind, Seq: seq, Value: value})
			}
		}
	}
}

// P7.1: what is refused written out, and that ErrKind comes first.
func TestPutRefuses(t *testing.T) {
	for _, c := range []struct {
		f    frame.Frame
		want api.Errno
	}{
		{frame.Frame{}, api.ErrKind},
		{frame.Frame{Kind: 6, Seq: 7, Value: 258}, api.ErrKind},
		{frame.Frame{Kind: -1, Seq: 7, Value: 258}, api.ErrKind},
		{frame.Frame{Kind: 257, Seq: 7, Value: 258}, api.ErrKind},
		{frame.Frame{Kind: 0, Seq: 256, Value: 1 << 40}, api.ErrKind},
		{frame.Frame{Kind: 6, Seq: -1, Value: -1}, api.ErrKind},
		{frame.Frame{Kind: frame.First, Seq: -1, Value: 258}, api.ErrRange},
		{frame.Frame{Kind: frame.First, Seq: 256, Value: 258}, api.ErrRange},
		{frame.Frame{Kind: frame.First, Seq: 7, Value: -1}, api.ErrRange},
		{frame.Frame{Kind: frame.First, Seq: 7, Value: 65536}, api.ErrRange},
		{frame.Frame{Kind: frame.Second, Seq: 7, Value: -1}, api.ErrRange},
		{frame.Frame{Kind: frame.Second, Seq: 7, Value: 65536}, api.ErrRange},
		{frame.Frame{Kind: frame.Balise, Seq: 7, Value: -1}, api.ErrRange},
		{frame.Frame{Kind: frame.Balise, Seq: 7, Value: 65536}, api.ErrRange},
		{frame.Frame{Kind: frame.Radar, Seq: 256, Value: -1}, api.ErrRange},
		{frame.Frame{Kind: frame.Radar, Seq: 7, Value: 2147483648}, api.ErrRange},
		{frame.Frame{Kind: frame.Radar, Seq: 7, Value: -2147483649}, api.ErrRange},
		{frame.Frame{Kind: frame.Accel, Seq: -1, Value: -1}, api.ErrRange},
		{frame.Frame{Kind: frame.Accel, Seq: 7, Value: 2147483648}, api.ErrRange},
		{frame.Frame{Kind: frame.Accel, Seq: 7, Value: -2147483649}, api.ErrRange},
		{frame.Frame{Kind: frame.Accel, Seq: 256, Value: 1 << 40}, api.ErrRange},
	} {
		if b, err := frame.Put(c.f); err != c.want || len(b) != 0 {
			t.Errorf("Put(%v) = %x, %d; want %d", c.f, b, err, c.want)
		}
	}
}

// P7.2: fewer than 5 bytes, whatever they are, even if their checksum is right or no Kind is first.
func TestGetShort(t *testing.T) {
	refused(t, nil, api.ErrShort)
	refused(t, []byte{}, api.ErrShort)
	long := written(frame.Frame{Kind: frame.First, Seq: 7, Value: 258})
	for n := range 5 {
		refused(t, long[:n], api.ErrShort)
	}
	for x := range 256 {
		for n := 1; n < 5; n++ {
			refused(t, bytes.Repeat([]byte{byte(x)}, n), api.ErrShort)
		}
		refused(t, crc.Seal([]byte{byte(x)}), api.ErrShort)
		refused(t, crc.Seal([]byte{byte(x), 7}), api.ErrShort)
	}
	// With 5 bytes it is something else that is wrong.
	refused(t, long[:5], api.ErrForm)
	refused(t, make([]byte, 5), api.ErrKind)
}

// P7.2: every first byte that is not a Kind, ahead of what else is wrong.
func TestGetKind(t *testing.T) {
	for kind := range 256 {
		if 1 <= kind && kind <= 5 {
			continue
		}
		for _, size := range []int{0, 1, 2, 3, 4, 5, 255} {
			b := append([]byte{byte(kind), 7, byte(size)}, make([]byte, size)...)
			refused(t, crc.Seal(b), api.ErrKind)
			refused(t, append(b, 0x12, 0x34), api.ErrKind)
			refused(t, append(b, 0x12, 0x34, 0x56), api.ErrKind)
		}
	}
}

// P7.2: every third byte and every length near that of a frame, with a right checksum and without.
func TestGetForm(t *testing.T) {
	rules(func(kind int, r rule) {
		for size := range 256 {
			for n := range 20 {
				if size == r.size && n == r.size {
					continue
				}
				b := append([]byte{byte(kind), 7, byte(size)}, make([]byte, n)...)
				refused(t, crc.Seal(b), api.ErrForm)
				refused(t, append(b, 0x12, 0x34), api.ErrForm)
			}
		}
	})
}

// P7.2: in bytes written out: a third byte and a length that fit each other, but not the Kind, bytes behind a frame, and lengths that agree with it modulo 256.
func TestGetFormWrittenOut(t *testing.T) {
	short := written(frame.Frame{Kind: frame.First, Seq: 7, Value: 258})
	long := written(frame.Frame{Kind: frame.Radar, Seq: 7, Value: 258})
	for _, b := range [][]byte{
		crc.Seal([]byte{1, 7, 4, 0, 0, 1, 2}),
		crc.Seal([]byte{5, 7, 4, 0, 0, 1, 2}),
		crc.Seal([]byte{3, 7, 2, 1, 2}),
		crc.Seal([]byte{4, 7, 2, 1, 2}),
		crc.Seal([]byte{1, 7, 0}),
		crc.Seal([]byte{2, 7, 2}),
		crc.Seal([]byte{2, 7, 1, 2}),
		short[:6],
		slices.Concat(short, []byte{0}),
		slices.Concat(short, []byte{0, 0}),
		slices.Concat([]byte{1}, short),
		long[:8],
		slices.Concat(long, []byte{0}),
		crc.Seal(slices.Concat(short[:5], make([]byte, 256))),
		crc.Seal(slices.Concat(long[:7], make([]byte, 256))),
		crc.Seal(slices.Concat(long[:7], make([]byte, 65536))),
	} {
		refused(t, b, api.ErrForm)
	}
}

// P7.2: every other checksum, and so the right one with its bytes changed over.
func TestGetSum(t *testing.T) {
	rules(func(kind int, r rule) {
		for _, value := range []int64{r.lo, 258, r.hi} {
			b := written(frame.Frame{Kind: kind, Seq: 7, Value: value})
			n := len(b) - 2
			right := binary.BigEndian.Uint16(b[n:])
			for sum := range 1 << 16 {
				binary.BigEndian.PutUint16(b[n:], uint16(sum))
				if uint16(sum) != right {
					refused(t, b, api.ErrSum)
				}
			}
			binary.LittleEndian.PutUint16(b[n:], right)
			refused(t, b, api.ErrSum)
		}
	})
}

// P7.2, by P6.2: no inverted bits within 16 consecutive ones leave a frame.
func TestGetGarbled(t *testing.T) {
	row := scatter(72)
	rules(func(kind int, _ rule) {
		b := written(frame.Frame{Kind: kind, Seq: int(row.next() % 256), Value: int64(row.next() % 65536)})
		many := len(b) * 8
		for at := range many {
			for range 300 {
				changed := slices.Clone(b)
				changed[at/8] ^= 0x80 >> (at % 8)
				pattern := row.next()
				for i := at + 1; i < min(at+16, many); i++ {
					changed[i/8] ^= byte(pattern>>(i-at)&1) << (7 - i%8)
				}
				if f, err := frame.Get(changed); err == api.OK {
					t.Errorf("Get(%x) = %v; it was %x", changed, f, b)
				}
				tryGet(t, changed)
			}
		}
	})
}

// P7.2: scattered bytes of all lengths near that of a frame, many of them with a right head, or checksum, or both.
func TestGetScattered(t *testing.T) {
	row := scatter(73)
	for range 300000 {
		b := row.bytes(int(row.next() % 14))
		turn := row.next()
		if turn&3 != 0 && len(b) >= 3 {
			b[0], b[2] = byte(turn>>2%7), byte(turn>>8%5)
		}
		if turn>>16&1 != 0 {
			b = crc.Seal(b)
		}
		tryGet(t, b)
	}
}

// P7.2: all bytes of a Value and every Seq lead to a frame, if the rest is right.
func TestGetEveryByte(t *testing.T) {
	row := scatter(74)
	rules(func(kind int, r rule) {
		for at := range r.size + 1 {
			for x := range 256 {
				body := append([]byte{byte(kind), byte(row.next()), byte(r.size)}, row.bytes(r.size)...)
				if at == 0 {
					body[1] = byte(x)
				} else {
					body[2+at] = byte(x)
				}
				b := crc.Seal(body)
				tryGet(t, b)
				if f, err := frame.Get(b); err != api.OK || f.Kind != kind || f.Seq != int(body[1]) {
					t.Errorf("Get(%x) = %v, %d", b, f, err)
				}
			}
		}
	})
}

// The document's rules: bytes that are passed, and their spare capacity, are neither changed nor read beyond their end.
func TestArguments(t *testing.T) {
	f := frame.Frame{Kind: frame.Accel, Seq: 7, Value: -258}
	whole := slices.Concat(written(f), []byte(" and more behind"))
	kept := slices.Clone(whole)
	for n := range len(whole) + 1 {
		got, err := frame.Get(whole[:n])
		if (err == api.OK) != (n == 9) || err == api.OK && got != f {
			t.Errorf("Get of %d bytes = %v, %d", n, got, err)
		}
		if !bytes.Equal(whole, kept) {
			t.Fatalf("of %d bytes: %q; they were %q", n, whole, kept)
		}
	}
}

// The document's rules: results are new memory, and nothing is retained.
func TestResults(t *testing.T) {
	f := frame.Frame{Kind: frame.First, Seq: 7, Value: 258}
	want := []byte("\x01\x07\x02\x01\x02\x97\x63")
	b, _ := frame.Put(f)
	again, _ := frame.Put(f)
	clear(again[:cap(again)])
	if !bytes.Equal(b, want) {
		t.Errorf("Put = %x after another one's result was changed; want %x", b, want)
	}
	got, _ := frame.Get(b)
	clear(b[:cap(b)])
	if got != f {
		t.Errorf("Get = %v after its argument was changed; want %v", got, f)
	}
	if b, _ := frame.Put(f); !bytes.Equal(b, want) {
		t.Errorf("Put = %x after others were changed; want %x", b, want)
	}
}

// P1: very many bytes end, too.
func TestManyBytes(t *testing.T) {
	row := scatter(71)
	b := row.bytes(1 << 22)
	rules(func(kind int, r rule) {
		b[0], b[2] = byte(kind), byte(r.size)
		refused(t, b, api.ErrForm)
	})
	b[0] = 0
	refused(t, b, api.ErrKind)
}
