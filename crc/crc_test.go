package crc_test

import (
	"bytes"
	"slices"
	"testing"

	"odograph/crc"
)

// scatter is a row of numbers, always the same one.
type scatter uint64

func (s *scatter) next() uint64 {
	*s = *s*6364136223846793005 + 1442695040888963407
	return uint64(*s ^ *s>>31)
}

// bytes are n bytes of the row.
func (s *scatter) bytes(n int) []byte {
	b := make([]byte, n)
	for i := range b {
		b[i] = byte(s.next() >> 8)
	}
	return b
}

// samples calls f with no bytes, with all of one byte, with equal ones, and with scattered ones of many lengths.
func samples(f func(b []byte)) {
	f(nil)
	f([]byte{})
	for x := range 256 {
		f([]byte{byte(x)})
	}
	for n := 2; n <= 40; n++ {
		for _, x := range []byte{0x00, 0xFF, 0x80, 0x01, 0x55} {
			f(bytes.Repeat([]byte{x}, n))
		}
	}
	row := scatter(6)
	for range 3000 {
		f(row.bytes(2 + int(row.next()%70)))
	}
}

// remainder is the checksum as it is known from polynomials of bits: what is left of the bytes, with 16 zeros behind, and with sum at their front, divided by x^16 + x^12 + x^5 + 1.
func remainder(sum uint16, b []byte) uint16 {
	var bits []bool
	for _, x := range append(slices.Clone(b), 0, 0) {
		for at := 7; at >= 0; at-- {
			bits = append(bits, x>>at&1 != 0)
		}
	}
	for i := range 16 {
		bits[i] = bits[i] != (sum>>(15-i)&1 != 0)
	}
	for i := range len(b) * 8 {
		if !bits[i] {
			continue
		}
		for _, power := range []int{16, 12, 5, 0} {
			bits[i+16-power] = !bits[i+16-power]
		}
	}
	left := uint16(0)
	for _, bit := range bits[len(b)*8:] {
		left <<= 1
		if bit {
			left++
		}
	}
	return left
}

// P6.1: checksums in numbers written out: that of the chapter, that of the frame of chapter 7, and others that are known.
func TestSumWrittenOut(t *testing.T) {
	var all []byte
	for x := range 256 {
		all = append(all, byte(x))
	}
	for _, c := range []struct {
		b    []byte
		want uint16
	}{
		{nil, 0xFFFF},
		{[]byte{}, 0xFFFF},
		{[]byte("123456789"), 0x29B1},
		{[]byte{0x01, 0x07, 0x02, 0x01, 0x02}, 0x9763},
		{[]byte("A"), 0xB915},
		{[]byte{0xFF}, 0xFF00},
		{[]byte{0x00}, 0xE1F0},
		{[]byte{0x00, 0x00}, 0x1D0F},
		{[]byte{0xFF, 0xFF}, 0x0000},
		{[]byte{0xFF, 0xFF, 0x00}, 0x0000},
		{[]byte{0xFF, 0xFF, 0x01}, 0x1021},
		{all, 0x3FBD},
		{bytes.Repeat([]byte("A"), 256), 0xEA0B},
	} {
		if got := crc.Sum(c.b); got != c.want {
			t.Errorf("Sum(%x) = %04x; want %04x", c.b, got, c.want)
		}
	}
}

// P6.1: the checksum of any bytes.
func TestSum(t *testing.T) {
	samples(func(b []byte) {
		if got, want := crc.Sum(b), remainder(0xFFFF, b); got != want {
			t.Errorf("Sum(%x) = %04x; want %04x", b, got, want)
		}
	})
}

// P6.1: with every checksum, of bytes that have it, and others behind them.
func TestGoFromEveryChecksum(t *testing.T) {
	row := scatter(61)
	seen := map[uint16]int{}
	for pair := range 1 << 16 {
		before := []byte{byte(pair >> 8), byte(pair)}
		sum := crc.Sum(before)
		seen[sum]++
		b := row.bytes(pair % 7)
		got := crc.Go(sum, b)
		if want := crc.Sum(append(before, b...)); got != want {
			t.Errorf("Go(%04x, %x) = %04x; want %04x", sum, b, got, want)
		}
		if want := remainder(sum, b); got != want {
			t.Errorf("Go(%04x, %x) = %04x; by division %04x", sum, b, got, want)
		}
	}
	// Two bytes have each checksum once, so that none has been left out.
	if len(seen) != 1<<16 {
		t.Errorf("%d checksums of two bytes; want %d", len(seen), 1<<16)
	}
}

// P6.1: bytes may be cut wherever one likes, also at their ends.
func TestGoInPieces(t *testing.T) {
	samples(func(b []byte) {
		want := crc.Sum(b)
		for i := range len(b) + 1 {
			if got := crc.Go(crc.Sum(b[:i]), b[i:]); got != want {
				t.Errorf("of %x cut at %d: %04x; want %04x", b, i, got, want)
			}
		}
		single := crc.Sum(nil)
		for i := range b {
			single = crc.Go(single, b[i:i+1])
		}
		if single != want {
			t.Errorf("of %x byte by byte: %04x; want %04x", b, single, want)
		}
	})
	for _, sum := range []uint16{0, 1, 0x1021, 0x7FFF, 0x8000, 0xFFFF} {
		if got := crc.Go(sum, nil); got != sum {
			t.Errorf("Go(%04x) of no bytes = %04x", sum, got)
		}
	}
}

// P6.1: the bytes and their checksum, its higher byte first; and what is opened is what was sealed.
func TestSealAndOpen(t *testing.T) {
	samples(func(b []byte) {
		sum := crc.Sum(b)
		sealed := crc.Seal(b)
		if want := slices.Concat(b, []byte{byte(sum >> 8), byte(sum & 0xFF)}); !bytes.Equal(sealed, want) {
			t.Errorf("Seal(%x) = %x; want %x", b, sealed, want)
		}
		if got, ok := crc.Open(sealed); !ok || !bytes.Equal(got, b) {
			t.Errorf("Open(%x) = %x, %t; want %x", sealed, got, ok, b)
		}
		twice := crc.Seal(sealed)
		if got, ok := crc.Open(twice); !ok || !bytes.Equal(got, sealed) {
			t.Errorf("Open(%x) = %x, %t; want %x", twice, got, ok, sealed)
		}
	})
}

// P6.1: in bytes written out: what is a Seal, and what is none.
func TestOpenWrittenOut(t *testing.T) {
	for _, c := range []struct {
		b    []byte
		want []byte
		ok   bool
	}{
		{nil, nil, false},
		{[]byte{}, nil, false},
		{[]byte{0xFF}, nil, false},
		{[]byte{0x00}, nil, false},
		{[]byte{0xFF, 0xFF}, nil, true},
		{[]byte{0x00, 0x00}, nil, false},
		{[]byte{0xFF, 0xFE}, nil, false},
		{[]byte{0xFE, 0xFF}, nil, false},
		{[]byte{'A', 0xB9, 0x15}, []byte("A"), true},
		{[]byte{'A', 0x15, 0xB9}, nil, false},
		{[]byte{'B', 0xB9, 0x15}, nil, false},
		{[]byte{0xB9, 0x15, 'A'}, nil, false},
		{[]byte{'A', 0xB9}, nil, false},
		{[]byte{'A', 0xB9, 0x15, 0x01}, nil, false},
		{[]byte{0x00, 'A', 0xB9, 0x15}, nil, false},
		{[]byte("123456789\x29\xB1"), []byte("123456789"), true},
		{[]byte("123456789\xB1\x29"), nil, false},
		{[]byte("123456789"), nil, false},
		{[]byte("12345678\x29\xB1"), nil, false},
		{[]byte("213456789\x29\xB1"), nil, false},
		// A byte of 0 behind a Seal makes another one.
		{[]byte{'A', 0xB9, 0x15, 0x00}, []byte{'A', 0xB9}, true},
		{[]byte{0xFF, 0xFF, 0x00, 0x00}, []byte{0xFF, 0xFF}, true},
		{[]byte{0xFF, 0xFF, 0x00, 0x00, 0x00}, []byte{0xFF, 0xFF, 0x00}, true},
		{[]byte{0x01, 0x07, 0x02, 0x01, 0x02, 0x97, 0x63}, []byte{0x01, 0x07, 0x02, 0x01, 0x02}, true},
	} {
		got, ok := crc.Open(c.b)
		if ok != c.ok || !bytes.Equal(got, c.want) {
			t.Errorf("Open(%x) = %x, %t; want %x, %t", c.b, got, ok, c.want, c.ok)
		}
	}
}

// P6.1: of all pairs of bytes one alone is a Seal, and of all three bytes one for each first one.
func TestOpenHasNoOtherSeals(t *testing.T) {
	try := func(b []byte, sum uint16) {
		n := len(b) - 2
		want := []byte{byte(sum >> 8), byte(sum)}
		got, ok := crc.Open(b)
		if ok != bytes.Equal(b[n:], want) || ok && !bytes.Equal(got, b[:n]) || !ok && len(got) != 0 {
			t.Errorf("Open(%x) = %x, %t; the checksum is %x", b, got, ok, want)
		}
	}
	for pair := range 1 << 16 {
		try([]byte{byte(pair >> 8), byte(pair)}, 0xFFFF)
	}
	for x := range 256 {
		sum := remainder(0xFFFF, []byte{byte(x)})
		for pair := range 1 << 16 {
			try([]byte{byte(x), byte(pair >> 8), byte(pair)}, sum)
		}
	}
}

// inverted is b with the bits of a pattern inverted, whose highest one lies at a bit of b; the first bit is the highest one of the first byte.
func inverted(b []byte, at int, pattern uint32) []byte {
	changed := slices.Clone(b)
	for i := range 32 {
		if pattern<<i&(1<<31) != 0 {
			changed[(at+i)/8] ^= 0x80 >> ((at + i) % 8)
		}
	}
	return changed
}

// P6.2: no inverted bits within 16 consecutive ones leave a Seal: all patterns, at all places of short Seals.
func TestBurstsOfShortSeals(t *testing.T) {
	row := scatter(62)
	for n := range 5 {
		sealed := crc.Seal(row.bytes(n))
		many := len(sealed) * 8
		for at := range many {
			far := min(16, many-at)
			for rest := range uint32(1) << (far - 1) {
				pattern := uint32(1)<<31 | rest<<(32-far)
				changed := inverted(sealed, at, pattern)
				if got, ok := crc.Open(changed); ok || len(got) != 0 {
					t.Fatalf("Open(%x) = %x, %t; %x is a Seal", changed, got, ok, sealed)
				}
			}
		}
	}
}

// P6.2: the same in longer Seals, at all places.
func TestBurstsOfLongSeals(t *testing.T) {
	row := scatter(63)
	for _, n := range []int{7, 30, 64, 255, 256, 300} {
		b := row.bytes(n)
		sealed := crc.Seal(b)
		many := len(sealed) * 8
		for at := range many {
			far := min(16, many-at)
			for _, bits := range []uint32{1 << 31, 1<<31 | 1<<(32-far), ^uint32(0), 1<<31 | uint32(row.next()), 1<<31 | uint32(row.next())} {
				pattern := bits >> (32 - far) << (32 - far)
				changed := inverted(sealed, at, pattern)
				if got, ok := crc.Open(changed); ok || len(got) != 0 {
					t.Fatalf("Open(%x) = %x, %t; %x is a Seal", changed, got, ok, sealed)
				}
			}
		}
	}
}

// P6.1: 17 bits may lead to another Seal: those of the polynomial always do, and so tell it from other polynomials that P6.2 would hold for, too.
func TestPolynomialLeavesASeal(t *testing.T) {
	const polynomial = uint32(0x11021) << 15
	row := scatter(64)
	for _, n := range []int{1, 2, 5, 40} {
		b := row.bytes(n)
		sealed := crc.Seal(b)
		for at := range len(sealed)*8 - 16 {
			changed := inverted(sealed, at, polynomial)
			if got, ok := crc.Open(changed); !ok || !bytes.Equal(got, changed[:n]) {
				t.Errorf("Open(%x) = %x, %t; want %x", changed, got, ok, changed[:n])
			}
		}
	}
}

// The document's rules: bytes that are passed, and their spare capacity, are not changed.
func TestArguments(t *testing.T) {
	whole := []byte("123456789\x29\xB1 and more behind")
	kept := slices.Clone(whole)
	for n := range len(whole) + 1 {
		crc.Sum(whole[:n])
		crc.Go(0x1234, whole[:n])
		crc.Seal(whole[:n])
		crc.Open(whole[:n])
		if !bytes.Equal(whole, kept) {
			t.Fatalf("of %d bytes: %q; they were %q", n, whole, kept)
		}
	}
}

// The document's rules: results are new memory, and nothing is retained.
func TestResults(t *testing.T) {
	b := []byte("123456789")
	sealed := crc.Seal(b)
	again := crc.Seal(b)
	opened, _ := crc.Open(sealed)
	openedAgain, _ := crc.Open(sealed)
	empty := crc.Seal(nil)
	for _, l := range [][]byte{b, again[:cap(again)], openedAgain[:cap(openedAgain)], empty[:cap(empty)]} {
		for i := range l {
			l[i] = '?'
		}
	}
	if want := []byte("123456789\x29\xB1"); !bytes.Equal(sealed, want) {
		t.Errorf("Seal = %q after others were changed; want %q", sealed, want)
	}
	if want := []byte("123456789"); !bytes.Equal(opened, want) {
		t.Errorf("Open = %q after others were changed; want %q", opened, want)
	}
	for i := range sealed {
		sealed[i] = '!'
	}
	if want := []byte("123456789"); !bytes.Equal(opened, want) {
		t.Errorf("Open = %q after its argument was changed; want %q", opened, want)
	}
	if got := crc.Seal(nil); !bytes.Equal(got, []byte{0xFF, 0xFF}) {
		t.Errorf("Seal of no bytes = %x", got)
	}
}

// P1: very many bytes end, too.
func TestManyBytes(t *testing.T) {
	row := scatter(65)
	b := row.bytes(1 << 22)
	sum := crc.Sum(b)
	half := crc.Sum(b[:1<<21])
	if got := crc.Go(half, b[1<<21:]); got != sum {
		t.Errorf("in two halves %04x; want %04x", got, sum)
	}
	sealed := crc.Seal(b)
	if got, ok := crc.Open(sealed); !ok || !bytes.Equal(got, b) {
		t.Errorf("Open: %d bytes, %t", len(got), ok)
	}
	sealed[1<<20] ^= 1
	if got, ok := crc.Open(sealed); ok || len(got) != 0 {
		t.Errorf("Open with an inverted bit: %d bytes, %t", len(got), ok)
	}
}
