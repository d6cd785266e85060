// Package bits is layer 1, bits and bytes: parts of a number, its sign, and its bytes. The chapter is shared/doc/01-bits.md.
package bits

// wordBits and wordBytes are how many bits and bytes a number has at most.
const (
	wordBits  = 64
	wordBytes = 8
)

// Field answers the bits high to low of x as a number; 0, unless 0 <= low <= high <= 63.
func Field(x uint64, high int, low int) uint64 {
	if low < 0 || high < low || high >= wordBits {
		return 0
	}
	return x >> low & mask(high-low+1)
}

// Sext answers the lowest n bits of x with bit n-1 in all places above; of 64 and more x, of less than 1 bit 0.
func Sext(x uint64, n int) uint64 {
	if n < 1 {
		return 0
	}
	if n >= wordBits {
		return x
	}
	up := wordBits - n
	// A shift to the right of a signed number is what brings the sign down.
	return uint64(int64(x<<up) >> up)
}

// Put answers the size lowest bytes of x (none below 0, eight above), the lowest first, or, if big, the highest.
func Put(x uint64, size int, big bool) []byte {
	n := min(max(size, 0), wordBytes)
	b := make([]byte, n)
	for i := range n {
		b[place(i, n, big)] = byte(x >> (8 * i))
	}
	return b
}

// Get answers the number of at most the first eight bytes of b, the lowest first, or, if big, the highest.
func Get(b []byte, big bool) uint64 {
	n := min(len(b), wordBytes)
	x := uint64(0)
	for i := range n {
		x |= uint64(b[place(i, n, big)]) << (8 * i)
	}
	return x
}

// Align tells whether x is a multiple of size, which is 1, 2, 4 or 8; of other sizes false.
func Align(x uint64, size int) bool {
	switch size {
	case 1, 2, 4, 8:
		return x%uint64(size) == 0
	}
	return false
}

// mask answers n ones, n from 1 to 64. Of 64 the shift leaves 0, and 0 less 1 is all ones, so that n needs no case of its own.
func mask(n int) uint64 { return 1<<n - 1 }

// place answers where the byte of rank i (0 the lowest) of n bytes stands.
func place(i int, n int, big bool) int {
	if big {
		return n - 1 - i
	}
	return i
}
