// Package octet is layer 1: numbers as bytes.
package octet

// most is how many bytes a number of 64 bits has.
const most = 8

// Put tells the lowest size bytes of n, the highest one first (P1.1).
func Put(n uint64, size int) []byte {
	if size < 1 || size > most {
		return nil
	}
	b := make([]byte, size)
	for i := range size {
		b[size-1-i] = byte(n >> (8 * i))
	}
	return b
}

// Get tells the number that the bytes are, the highest one first, modulo 2^64 (P1.1).
func Get(b []byte) uint64 {
	n := uint64(0)
	for _, x := range b {
		n = n<<8 | uint64(x)
	}
	return n
}

// Int tells the shortest bytes that Back reads as n (P1.2).
func Int(n int64) []byte {
	return Put(uint64(n), width(n))
}

// Back tells the number that the bytes are in two's complement, if they are the shortest ones (P1.2).
func Back(b []byte) (int64, bool) {
	if len(b) < 1 || len(b) > most {
		return 0, false
	}
	n := signed(Get(b), len(b))
	if width(n) != len(b) {
		return 0, false
	}
	return n, true
}

// Same tells whether both are the same bytes (P1.1).
func Same(a, b []byte) bool {
	if len(a) != len(b) {
		return false
	}
	for i := range a {
		if a[i] != b[i] {
			return false
		}
	}
	return true
}

// signed reads the lowest size bytes of n, size from 1 to 8, the highest bit of them being the sign.
func signed(n uint64, size int) int64 {
	// The sign bit is moved to the top first: only there does a shift to the right carry it along.
	above := 8 * (most - size)
	return int64(n<<above) >> above
}

// width tells in how many bytes, at least, n stands with its sign.
func width(n int64) int {
	size := 1
	for size < most && signed(uint64(n), size) != n {
		size++
	}
	return size
}
