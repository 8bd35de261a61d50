package octet_test

import (
	"bytes"
	"math"
	"math/big"
	"testing"

	"noria/octet"
)

// numbers has numbers at all the places where the count of bytes, or the sign, changes.
func numbers() []int64 {
	l := []int64{0, math.MaxInt64, math.MinInt64}
	for i := range 63 {
		p := int64(1) << i
		for d := int64(-2); d <= 2; d++ {
			l = append(l, p+d, -p+d)
		}
	}
	return append(l, math.MinInt64+1, math.MaxInt64-1, 0x0123456789abcdef, -0x0123456789abcdef)
}

// P1.1: Put tells the lowest size bytes, the highest one first.
func TestPut(t *testing.T) {
	const n = 0x0123456789abcdef
	for _, c := range []struct {
		n    uint64
		size int
		want []byte
	}{
		{258, 2, []byte{1, 2}},
		{n, 1, []byte{0xef}},
		{n, 2, []byte{0xcd, 0xef}},
		{n, 3, []byte{0xab, 0xcd, 0xef}},
		{n, 4, []byte{0x89, 0xab, 0xcd, 0xef}},
		{n, 5, []byte{0x67, 0x89, 0xab, 0xcd, 0xef}},
		{n, 6, []byte{0x45, 0x67, 0x89, 0xab, 0xcd, 0xef}},
		{n, 7, []byte{0x23, 0x45, 0x67, 0x89, 0xab, 0xcd, 0xef}},
		{n, 8, []byte{0x01, 0x23, 0x45, 0x67, 0x89, 0xab, 0xcd, 0xef}},
		{0, 1, []byte{0}},
		{0, 8, make([]byte, 8)},
		{256, 1, []byte{0}},
		{1, 8, []byte{0, 0, 0, 0, 0, 0, 0, 1}},
		{math.MaxUint64, 8, bytes.Repeat([]byte{0xff}, 8)},
		{math.MaxUint64, 3, bytes.Repeat([]byte{0xff}, 3)},
	} {
		if b := octet.Put(c.n, c.size); !bytes.Equal(b, c.want) {
			t.Errorf("Put(%#x, %d) is % x, not % x", c.n, c.size, b, c.want)
		}
	}
}

// P1.1: Put tells nothing of a size below 1 or above 8.
func TestPutOfNoSize(t *testing.T) {
	for _, size := range []int{0, -1, -8, math.MinInt, 9, 10, 16, 64, math.MaxInt} {
		for _, n := range []uint64{0, 258, math.MaxUint64} {
			if b := octet.Put(n, size); len(b) != 0 {
				t.Errorf("Put(%d, %d) is % x, not nothing", n, size, b)
			}
		}
	}
}

// P1.1: Get tells the number that the bytes are, modulo 2^64.
func TestGet(t *testing.T) {
	for _, c := range []struct {
		b    []byte
		want uint64
	}{
		{nil, 0},
		{[]byte{}, 0},
		{[]byte{0}, 0},
		{[]byte{0xff}, 255},
		{[]byte{1, 2}, 258},
		{[]byte{0, 0, 1, 2}, 258},
		{[]byte{0x01, 0x23, 0x45, 0x67, 0x89, 0xab, 0xcd, 0xef}, 0x0123456789abcdef},
		{bytes.Repeat([]byte{0xff}, 8), math.MaxUint64},
		{[]byte{1, 0, 0, 0, 0, 0, 0, 0, 2}, 2},
		{[]byte{9, 8, 0x80, 0, 0, 0, 0, 0, 0, 7}, 1<<63 + 7},
		{bytes.Repeat([]byte{0xff}, 100), math.MaxUint64},
	} {
		if n := octet.Get(c.b); n != c.want {
			t.Errorf("Get(% x) is %d, not %d", c.b, n, c.want)
		}
	}
}

// P1.1: Get tells what arithmetic without a bound tells, modulo 2^64.
func TestGetOfMany(t *testing.T) {
	mod := new(big.Int).Lsh(big.NewInt(1), 64)
	b := []byte{}
	for i := range 40 {
		b = append(b, byte(37*i+11))
		want := new(big.Int).Mod(new(big.Int).SetBytes(b), mod).Uint64()
		if n := octet.Get(b); n != want {
			t.Errorf("Get(% x) is %d, not %d", b, n, want)
		}
	}
}

// P1.1: Same tells whether they are the same bytes.
func TestSame(t *testing.T) {
	for _, c := range []struct {
		a, b []byte
		want bool
	}{
		{nil, nil, true},
		{nil, []byte{}, true},
		{[]byte{}, []byte{}, true},
		{nil, []byte{0}, false},
		{[]byte{0}, []byte{0}, true},
		{[]byte{1, 2, 3}, []byte{1, 2, 3}, true},
		{[]byte{1, 2, 3}, []byte{0, 2, 3}, false},
		{[]byte{1, 2, 3}, []byte{1, 0, 3}, false},
		{[]byte{1, 2, 3}, []byte{1, 2, 0}, false},
		{[]byte{1, 2}, []byte{2, 1}, false},
		{[]byte{1, 2}, []byte{1, 2, 0}, false},
		{[]byte{1, 2}, []byte{0, 1, 2}, false},
		{[]byte{1, 2}, []byte{1, 2, 3}, false},
		{[]byte{0}, []byte{0, 0}, false},
	} {
		if octet.Same(c.a, c.b) != c.want || octet.Same(c.b, c.a) != c.want {
			t.Errorf("Same(% x, % x) is not %v, one way round or the other", c.a, c.b, c.want)
		}
	}
}

// P1.2: Int tells the shortest bytes, and Back reads them.
func TestIntAndBack(t *testing.T) {
	for _, c := range []struct {
		n    int64
		want []byte
	}{
		{0, []byte{0}},
		{1, []byte{1}},
		{-1, []byte{0xff}},
		{127, []byte{0x7f}},
		{128, []byte{0, 0x80}},
		{255, []byte{0, 0xff}},
		{256, []byte{1, 0}},
		{-128, []byte{0x80}},
		{-129, []byte{0xff, 0x7f}},
		{-256, []byte{0xff, 0}},
		{32767, []byte{0x7f, 0xff}},
		{32768, []byte{0, 0x80, 0}},
		{-32768, []byte{0x80, 0}},
		{-32769, []byte{0xff, 0x7f, 0xff}},
		{1<<55 - 1, []byte{0x7f, 0xff, 0xff, 0xff, 0xff, 0xff, 0xff}},
		{1 << 55, []byte{0, 0x80, 0, 0, 0, 0, 0, 0}},
		{-1 << 55, []byte{0x80, 0, 0, 0, 0, 0, 0}},
		{-1<<55 - 1, []byte{0xff, 0x7f, 0xff, 0xff, 0xff, 0xff, 0xff, 0xff}},
		{math.MaxInt64, []byte{0x7f, 0xff, 0xff, 0xff, 0xff, 0xff, 0xff, 0xff}},
		{math.MinInt64, []byte{0x80, 0, 0, 0, 0, 0, 0, 0}},
	} {
		if b := octet.Int(c.n); !bytes.Equal(b, c.want) {
			t.Errorf("Int(%d) is % x, not % x", c.n, b, c.want)
		}
		if n, ok := octet.Back(c.want); !ok || n != c.n {
			t.Errorf("Back(% x) is %d, %v, not %d", c.want, n, ok, c.n)
		}
	}
}

// P1.2: Back refuses no bytes, more than 8, and such as are not the shortest.
func TestBackRefuses(t *testing.T) {
	for _, b := range [][]byte{
		nil,
		{},
		{0, 0},
		{0, 1},
		{0, 0x7f},
		{0xff, 0xff},
		{0xff, 0x80},
		{0, 0, 0x80},
		{0xff, 0xff, 0x7f},
		{0, 0x7f, 0, 0, 0, 0, 0, 0},
		{0xff, 0x80, 0, 0, 0, 0, 0, 0},
		make([]byte, 8),
		make([]byte, 9),
		bytes.Repeat([]byte{0xff}, 8),
		bytes.Repeat([]byte{0xff}, 9),
		{0, 0x80, 0, 0, 0, 0, 0, 0, 0},
		{0xff, 0x7f, 0, 0, 0, 0, 0, 0, 0},
		{1, 0, 0, 0, 0, 0, 0, 0, 1},
		bytes.Repeat([]byte{1}, 100),
	} {
		if n, ok := octet.Back(b); ok || n != 0 {
			t.Errorf("Back(% x) is %d, %v, not refused", b, n, ok)
		}
	}
}

// reads tells what Back is to tell of one to three bytes, by arithmetic of its own.
func reads(b []byte) (int64, bool) {
	n := int64(0)
	for _, x := range b {
		n = 256*n + int64(x)
	}
	if b[0] >= 0x80 {
		n -= int64(1) << (8 * len(b))
	}
	if len(b) == 1 {
		return n, true
	}
	half := int64(1) << (8*(len(b)-1) - 1) // one byte less holds the numbers from -half on, below half
	return n, n >= half || n < -half
}

// P1.2, P1.3: of all lists of one to three bytes Back tells the number of the shortest ones, and Int of it is the list.
func TestBackOfAllShort(t *testing.T) {
	for size := 1; size <= 3; size++ {
		for i := range 1 << (8 * size) {
			b := make([]byte, size)
			for k := range b {
				b[k] = byte(i >> (8 * k))
			}
			want, right := reads(b)
			n, ok := octet.Back(b)
			if ok != right || ok && n != want || !ok && n != 0 {
				t.Fatalf("Back(% x) is %d, %v, not %d, %v", b, n, ok, want, right)
			}
			if ok && !bytes.Equal(octet.Int(n), b) {
				t.Fatalf("Int(%d) is % x, not % x", n, octet.Int(n), b)
			}
		}
	}
}

// P1.3: Back(Int(n)) is n, and no shorter bytes are.
func TestBackOfInt(t *testing.T) {
	for _, n := range numbers() {
		b := octet.Int(n)
		if len(b) < 1 || len(b) > 8 {
			t.Fatalf("Int(%d) has %d bytes", n, len(b))
		}
		if m, ok := octet.Back(b); !ok || m != n {
			t.Errorf("Back(Int(%d)) is %d, %v", n, m, ok)
		}
		for size := 1; size < len(b); size++ {
			if m, ok := octet.Back(b[len(b)-size:]); ok && m == n {
				t.Errorf("Int(%d) is % x, but %d bytes are enough", n, b, size)
			}
		}
	}
}

// P1.3: Get(Put(n, 8)) is n.
func TestGetOfPut(t *testing.T) {
	for _, n := range numbers() {
		if m := octet.Get(octet.Put(uint64(n), 8)); m != uint64(n) {
			t.Errorf("Get(Put(%d, 8)) is %d", uint64(n), m)
		}
	}
}

// Rule 3: what is handed in is not changed, and what is answered later does not change it.
func TestBytesStay(t *testing.T) {
	b := []byte{0xff, 0x7f, 3}
	was := bytes.Clone(b)
	octet.Get(b)
	octet.Back(b)
	octet.Same(b, b)
	if !bytes.Equal(b, was) {
		t.Errorf("% x became % x", was, b)
	}
	first := octet.Put(258, 2)
	octet.Put(772, 2)
	octet.Int(772)
	if !bytes.Equal(first, []byte{1, 2}) {
		t.Errorf("an answer became % x", first)
	}
}
