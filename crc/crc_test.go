package crc_test

import (
	"bytes"
	"hash/crc32"
	"testing"

	"noria/crc"
)

// some tells n bytes that do not repeat soon, another row for each seed.
func some(n int, seed uint32) []byte {
	b := make([]byte, n)
	x := seed*2654435761 + 12345
	for i := range b {
		x = x*1664525 + 1013904223
		b[i] = byte(x >> 24)
	}
	return b
}

// byBits reckons a sum bit by bit, as P2.1 says it.
func byBits(b []byte) uint32 {
	reg := uint32(0xffffffff)
	for _, x := range b {
		reg ^= uint32(x)
		for range 8 {
			out := reg % 2
			reg /= 2
			if out == 1 {
				reg ^= 0xedb88320
			}
		}
	}
	return 0xffffffff - reg
}

// turned tells b with the bits turned that pattern names, from the bit at on (in each byte the lowest one first).
func turned(b []byte, at int, pattern uint32) []byte {
	l := bytes.Clone(b)
	for i := range 32 {
		if pattern>>i&1 == 1 {
			l[(at+i)/8] ^= 1 << ((at + i) % 8)
		}
	}
	return l
}

// refused says whether Open tells nothing and false.
func refused(b []byte) bool {
	inner, ok := crc.Open(b)
	return !ok && len(inner) == 0
}

// P2.1: Of tells sums that are known.
func TestOf(t *testing.T) {
	for _, c := range []struct {
		b    string
		want uint32
	}{
		{"", 0},
		{"123456789", 0xcbf43926},
		{"a", 0xe8b7be43},
		{"abc", 0x352441c2},
		{"The quick brown fox jumps over the lazy dog", 0x414fa339},
		{"\x00", 0xd202ef8d},
		{"\xff", 0xff000000},
		{"\x00\x00\x00\x00", 0x2144df1c},
		{"\xff\xff\xff\xff", 0xffffffff},
	} {
		if n := crc.Of([]byte(c.b)); n != c.want {
			t.Errorf("Of(%q) is %08x, not %08x", c.b, n, c.want)
		}
	}
	if n := crc.Of(nil); n != 0 {
		t.Errorf("Of(nil) is %08x", n)
	}
}

// P2.1: Of tells what the document's way, bit by bit, and the library tell, of each byte alone and of many.
func TestOfAll(t *testing.T) {
	var l [][]byte
	for i := range 256 {
		l = append(l, []byte{byte(i)}, []byte{0, byte(i)}, []byte{byte(i), 0xff, byte(255 - i)})
	}
	for n := range 300 {
		l = append(l, some(n, uint32(n)), make([]byte, n), bytes.Repeat([]byte{0xff}, n))
	}
	for _, b := range append(l, some(1<<17, 7)) {
		want := byBits(b)
		if crc32.ChecksumIEEE(b) != want {
			t.Fatalf("the test's own sum of % x is wrong", b)
		}
		if n := crc.Of(b); n != want {
			t.Fatalf("Of %d bytes is %08x, not %08x", len(b), n, want)
		}
	}
}

// P2.1: a Sum that New made has the sum of nothing, and has it still behind Add of no bytes.
func TestNew(t *testing.T) {
	s := crc.New()
	if s == nil || s.Value() != 0 || s.Value() != 0 {
		t.Fatal("a new Sum does not have the sum of nothing")
	}
	s.Add()
	s.Add(nil...)
	s.Add([]byte{}...)
	if s.Value() != 0 {
		t.Errorf("behind Add of no bytes it is %08x", s.Value())
	}
	s.Add([]byte("123456789")...)
	s.Add()
	if s.Value() != 0xcbf43926 || s.Value() != 0xcbf43926 {
		t.Errorf("it is %08x, not cbf43926", s.Value())
	}
}

// P2.1: the sum is the same at once and piece by piece, and is the sum of all bytes so far at each time.
func TestAddPieces(t *testing.T) {
	b := some(40, 3)
	for size := 1; size <= len(b); size++ {
		s := crc.New()
		for at := 0; at < len(b); at += size {
			end := min(at+size, len(b))
			s.Add(b[at:end]...)
			if s.Value() != byBits(b[:end]) {
				t.Fatalf("in pieces of %d, behind %d bytes, it is %08x, not %08x", size, end, s.Value(), byBits(b[:end]))
			}
		}
	}
	for at := range len(b) + 1 {
		s := crc.New()
		s.Add(b[:at]...)
		s.Add(b[at:]...)
		if s.Value() != crc.Of(b) {
			t.Fatalf("cut at %d it is %08x, not %08x", at, s.Value(), crc.Of(b))
		}
	}
}

// P2.1: two Sums side by side do not touch one another.
func TestTwoSums(t *testing.T) {
	a, b := crc.New(), crc.New()
	x, y := some(30, 1), some(30, 2)
	for i := range x {
		a.Add(x[i])
		if b.Value() != byBits(y[:i]) {
			t.Fatalf("behind an Add of the one the other is %08x", b.Value())
		}
		b.Add(y[i])
		if a.Value() != byBits(x[:i+1]) {
			t.Fatalf("behind an Add of the other the one is %08x", a.Value())
		}
	}
	if c := crc.New(); c.Value() != 0 {
		t.Errorf("one that was made later is %08x", c.Value())
	}
}

// P2.1: nil, and a Sum that New did not make, have no sum, and get none.
func TestNoSum(t *testing.T) {
	var holder struct{ s crc.Sum }
	for i, s := range []*crc.Sum{nil, {}, new(crc.Sum), &holder.s} {
		if s.Value() != 0 {
			t.Errorf("%d: Value is %08x", i, s.Value())
		}
		s.Add()
		s.Add(1)
		s.Add([]byte("123456789")...)
		if s.Value() != 0 {
			t.Errorf("%d: behind Add Value is %08x", i, s.Value())
		}
	}
}

// P2.2: Seal tells b, and its sum behind, the lowest byte first.
func TestSeal(t *testing.T) {
	for _, c := range []struct{ b, want string }{
		{"", "\x00\x00\x00\x00"},
		{"123456789", "123456789\x26\x39\xf4\xcb"},
		{"a", "a\x43\xbe\xb7\xe8"},
		{"\xff", "\xff\x00\x00\x00\xff"},
	} {
		if l := crc.Seal([]byte(c.b)); string(l) != c.want {
			t.Errorf("Seal(%q) is % x, not % x", c.b, l, c.want)
		}
	}
	if l := crc.Seal(nil); string(l) != "\x00\x00\x00\x00" {
		t.Errorf("Seal(nil) is % x", l)
	}
}

// P2.2: Open tells the bytes ahead of the last four, if these are their sum.
func TestOpen(t *testing.T) {
	for _, c := range []struct{ b, want string }{
		{"\x00\x00\x00\x00", ""},
		{"123456789\x26\x39\xf4\xcb", "123456789"},
		{"\xff\xff\xff\xff\xff\xff\xff\xff", "\xff\xff\xff\xff"},
	} {
		if l, ok := crc.Open([]byte(c.b)); !ok || string(l) != c.want {
			t.Errorf("Open(% x) is % x, %v, not % x", c.b, l, ok, c.want)
		}
	}
}

// P2.2: Open refuses fewer than four bytes, four that are no sum, and sums that stand another way.
func TestOpenRefuses(t *testing.T) {
	l := []string{
		"", "\x00", "\x00\x00", "\x00\x00\x00", "\xff", "\xff\xff\xff", "123",
		"\x01\x00\x00\x00", "\x00\x00\x00\x01", "\xff\xff\xff\xff", "1234", "\x20\x83\xb8\xed",
		"123456789\xcb\xf4\x39\x26", // the highest byte first
		"123456789\x26\x39\xf4",     // a byte too few
		"123456789\x26\x39\xf4\xcb\x00",
		"\x26\x39\xf4\xcb123456789",
		"123456788\x26\x39\xf4\xcb",
		"23456789\x26\x39\xf4\xcb",
		"123456789\xd9\xc6\x0b\x34", // the register before its bits are turned
	}
	for _, b := range l {
		if !refused([]byte(b)) {
			t.Errorf("Open(% x) is not refused", b)
		}
	}
	if !refused(nil) {
		t.Error("Open(nil) is not refused")
	}
}

// P2.2: of four bytes just the sum of nothing is opened.
func TestOpenOfFour(t *testing.T) {
	for at := range 4 {
		for x := 1; x < 256; x++ {
			b := make([]byte, 4)
			b[at] = byte(x)
			if !refused(b) {
				t.Errorf("Open(% x) is not refused", b)
			}
		}
	}
}

// P2.3: what is sealed is opened.
func TestOpenOfSeal(t *testing.T) {
	for n := range 300 {
		for _, b := range [][]byte{some(n, uint32(n)), make([]byte, n), crc.Seal(some(n, 5))} {
			sealed := crc.Seal(b)
			if len(sealed) != len(b)+4 || !bytes.Equal(sealed[:len(b)], b) {
				t.Fatalf("Seal of % x is % x", b, sealed)
			}
			if l, ok := crc.Open(sealed); !ok || !bytes.Equal(l, b) {
				t.Fatalf("Open of Seal of % x is % x, %v", b, l, ok)
			}
		}
	}
}

// P2.3: turned bits that stand within 7 in a row are not opened: all patterns, at all places of short bytes.
func TestShortChanges(t *testing.T) {
	for n := range 7 {
		sealed := crc.Seal(some(n, 11))
		for pattern := uint32(1); pattern < 1<<7; pattern += 2 {
			for at := 0; at+7 <= 8*len(sealed); at++ {
				if b := turned(sealed, at, pattern); !refused(b) {
					t.Fatalf("% x is opened as % x", sealed, b)
				}
			}
		}
	}
}

// patterns tells changes whose first and last bits stand width apart at the most, width from 1 to 32.
func patterns(width int) []uint32 {
	ends := uint32(1) | 1<<(width-1)
	mask := uint32(uint64(1)<<width - 1)
	l := []uint32{ends, mask, 0xedb88320&mask | ends, 0x04c11db7&mask | ends}
	for i := range 6 {
		b := some(4, uint32(100*width+i))
		x := uint32(b[0]) | uint32(b[1])<<8 | uint32(b[2])<<16 | uint32(b[3])<<24
		l = append(l, x&mask|ends)
	}
	return l
}

// P2.3: turned bits that stand within 32 in a row are not opened, of whichever width, wherever they begin.
func TestChanges(t *testing.T) {
	for _, n := range []int{0, 1, 4, 9, 20} {
		sealed := crc.Seal(some(n, 13))
		for width := 1; width <= 32; width++ {
			for _, pattern := range patterns(width) {
				for at := 0; at+width <= 8*len(sealed); at++ {
					if b := turned(sealed, at, pattern); !refused(b) {
						t.Fatalf("% x is opened as % x", sealed, b)
					}
				}
			}
		}
	}
}

// P2.3: so it is of many bytes, at the beginning, in the middle, over the seam to the sum, and in the sum itself.
func TestChangesOfMany(t *testing.T) {
	sealed := crc.Seal(some(3000, 17))
	end := 8 * len(sealed)
	for width := 1; width <= 32; width++ {
		for _, at := range []int{0, 1, 7, 8, end / 2, end/2 + 3, end - 64, end - 48, end - 33 - width/2, end - 32, end - width} {
			for _, pattern := range patterns(width) {
				if b := turned(sealed, at, pattern); !refused(b) {
					t.Fatalf("with %08x turned from the bit %d on it is opened", pattern, at)
				}
			}
		}
	}
}

// P2.3: 32 in a row is the bound: the divisor itself, of 33 bits (its highest power first), is a change that no sum tells.
func TestChangeOf33(t *testing.T) {
	sealed := crc.Seal(some(12, 19))
	for at := 0; at+33 <= 8*len(sealed); at++ {
		b := turned(turned(sealed, at, 1), at+1, 0xedb88320)
		if _, ok := crc.Open(b); !ok {
			t.Errorf("with the divisor laid over from the bit %d on it is refused", at)
		}
	}
}

// Rule 3: what is handed in stays, even what lies behind it, and no answer shares with it.
func TestBytesStay(t *testing.T) {
	room := []byte("123456789abcdefgh")
	b := room[:9]
	sealed := crc.Seal(b)
	crc.Of(b)
	crc.New().Add(b...)
	if string(room) != "123456789abcdefgh" {
		t.Fatalf("bytes that were handed in, or lie behind, became %q", room)
	}
	inner, ok := crc.Open(sealed)
	if !ok {
		t.Fatal("what was sealed is not opened")
	}
	inner[0] = 'x'
	_ = append(inner, 'x', 'x', 'x', 'x')
	if string(sealed) != "123456789\x26\x39\xf4\xcb" {
		t.Errorf("what was sealed became % x", sealed)
	}
	sealed[1] = 'y'
	if string(b) != "123456789" || string(inner) != "x23456789" {
		t.Errorf("%q, or %q, was changed by an answer", b, inner)
	}
	piece := []byte("1234")
	s := crc.New()
	s.Add(piece...)
	piece[0] = 'z'
	s.Add([]byte("56789")...)
	if s.Value() != 0xcbf43926 {
		t.Errorf("a Sum keeps what was handed in: %08x", s.Value())
	}
}
