package clint

import (
	"math"

	"drawbridge/bits"
)

// Where the registers stand.
const (
	softPlace = 0
	cmpPlace  = 0x4000
	timePlace = 0xbff8
)

// How many bytes are loaded and stored at once: a half of a register, whose upper one stands as far behind the lower one, or a whole one.
const (
	halfSize  = 4
	wholeSize = 8
	byteBits  = 8
)

// part is what a load or a store reaches: count bits, from the bit low on, of the register at place.
type part struct {
	place uint64
	low   int
	count int
}

// find answers the part of size bytes at off, and whether there is one.
func find(off uint64, size int) (part, bool) {
	p := part{place: off, count: wholeSize * byteBits}
	switch size {
	case halfSize:
		if off == softPlace {
			// One bit of its four bytes is kept, and neither an upper half nor a whole of it is to be had.
			return part{place: softPlace, count: 1}, true
		}
		p = half(off)
		fallthrough
	case wholeSize:
		return p, p.place == cmpPlace || p.place == timePlace
	}
	return part{}, false
}

// half answers the half that off would be, if a register stood there. Registers stand at multiples of wholeSize, so that one bit of off tells the halves apart.
func half(off uint64) part {
	upper := off & halfSize
	return part{place: off - upper, low: int(upper) * byteBits, count: halfSize * byteBits}
}

// of answers the part of a register that holds x.
func (p part) of(x uint64) uint64 { return bits.Field(x, p.low+p.count-1, p.low) }

// put answers what a register that holds old holds with the lowest bits of x in the part.
func (p part) put(old uint64, x uint64) uint64 {
	mine := bits.Field(math.MaxUint64, p.count-1, 0) << p.low
	return old&^mine | x<<p.low&mine
}
