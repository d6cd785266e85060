package uart

import (
	"fmt"
	"math"

	"drawbridge/api"
)

// ones is a number of all bits.
const ones = math.MaxUint64

// line is a line as the chapter tells it. Its bytes are texts, so that nothing here can be cut or written over.
type line struct {
	in, out  string
	ie, lost int
}

// lineOf answers what a line of the program holds.
func lineOf(u api.Uart) line { return line{string(u.In), string(u.Out), u.Ie, u.Lost} }

// uart answers a line of the program that holds this.
func (l line) uart() api.Uart {
	return api.Uart{In: []byte(l.in), Out: []byte(l.out), Ie: l.ie, Lost: l.lost}
}

// String answers a line as a text, long ones by their ends.
func (l line) String() string {
	return fmt.Sprintf("{In %s, Out %s, Ie %d, Lost %d}", short(l.in), short(l.out), l.ie, l.lost)
}

// short answers bytes as a text.
func short(b string) string {
	if len(b) <= 40 {
		return fmt.Sprintf("%q", b)
	}
	return fmt.Sprintf("%d bytes %q to %q", len(b), b[:8], b[len(b)-8:])
}

// place is one of the eight places: what is loaded there, and what is left when x is stored there.
type place struct {
	load  func(l *line) uint64
	store func(l *line, x uint64)
}

// nothing is a place that holds nothing.
var nothing = place{func(*line) uint64 { return 0 }, func(*line, uint64) {}}

// places has them all, in their order.
var places = [8]place{
	0: {takeOf, putOf},
	1: {func(l *line) uint64 { return uint64(l.ie) }, func(l *line, x uint64) { l.ie = int(x - x/4*4) }},
	2: nothing,
	3: nothing,
	4: nothing,
	5: {stateOf, nothing.store},
	6: nothing,
	7: nothing,
}

// takeOf takes the first byte that waits.
func takeOf(l *line) uint64 {
	if l.in == "" {
		return 0
	}
	x := l.in[0]
	l.in = l.in[1:]
	return uint64(x)
}

// putOf puts x's lowest byte behind those that went.
func putOf(l *line, x uint64) {
	if len(l.out) < 4096 {
		l.out += string([]byte{byte(x % 256)})
	}
}

// stateOf answers what is loaded of the state.
func stateOf(l *line) uint64 {
	if l.in == "" {
		return 0x60
	}
	return 0x61
}

// loadOf answers what Load has to answer.
func loadOf(l line, off uint64, size int) (uint64, line, bool) {
	if size != 1 || off > 7 {
		return 0, l, false
	}
	x := places[off].load(&l)
	return x, l, true
}

// storeOf answers what Store has to answer.
func storeOf(l line, off uint64, size int, x uint64) (line, bool) {
	if size != 1 || off > 7 {
		return l, false
	}
	places[off].store(&l, x)
	return l, true
}

// typeOf answers what Type has to answer, byte by byte.
func typeOf(l line, b string) line {
	for i := range len(b) {
		switch {
		case len(l.in) < 16:
			l.in += b[i : i+1]
		case l.lost < 1<<31:
			l.lost++
		}
	}
	return l
}

// upOf answers what Line has to answer.
func upOf(l line) bool { return l.in != "" && l.ie%2 != 0 }

// text answers n bytes, none of which is like one near it.
func text(n int, from int) string {
	b := make([]byte, n)
	for i := range b {
		b[i] = byte(from + 37*i + i/256)
	}
	return string(b)
}

// some are lines with nothing, with everything, and such as tell their parts apart; with as much as may wait, one less, and more than that.
func some() []line {
	var list []line
	for i, in := range []int{0, 1, 2, 7, 15, 16, 17, 40, 300} {
		for j, out := range []int{0, 1, 5, 4095, 4096, 4097, 5000} {
			ie := (i + j) % 4
			lost := []int{0, 1, 77, 1<<31 - 1, 1 << 31}[(i+2*j)%5]
			list = append(list, line{text(in, i), text(out, 100+j), ie, lost})
		}
	}
	return append(list, wrongOnes()...)
}

// wrongOnes are lines with numbers that no call leads to.
func wrongOnes() []line {
	var list []line
	for i, x := range []int{-1, -2, -3, -4, 4, 5, 6, 7, 255, 256, 257, 1 << 32, 1<<32 + 1, 1<<31 + 1, math.MaxInt - 1, math.MaxInt, math.MinInt, math.MinInt + 1} {
		for _, in := range []string{"", "a", text(16, 3)} {
			list = append(list, line{in, text(i, 9), x, 3}, line{in, text(i, 9), i % 4, x})
		}
	}
	return list
}

// sizes are those that there are not, such among them as could be taken for 1.
var sizes = []int{
	0, 2, 3, 4, 5, 7, 8, 9, 16, 17, 64, 255, 256, 257, 1 << 16, 1<<16 + 1, 1 << 32, 1<<32 + 1, 1<<62 + 1, math.MaxInt - 1, math.MaxInt,
	-1, -2, -4, -8, -255, -256, -1<<32 + 1, math.MinInt, math.MinInt + 1,
}

// far are places that there are not, such among them as are some that there are where they are cut to fewer bits.
func far() []uint64 {
	var list []uint64
	for off := uint64(8); off < 0x1010; off++ {
		list = append(list, off)
	}
	for off := range uint64(8) {
		for bit := 3; bit < 64; bit++ {
			list = append(list, off+1<<bit, off+ones-1<<bit)
		}
		list = append(list, ones-off, 1<<63-1-off, 1<<32-1-off)
	}
	return list
}

// numbers are stored: every byte with others above it, all bits and none, each one alone, and all but one.
func numbers() []uint64 {
	list := []uint64{ones, 0x0123456789abcdef, 0xfedcba9876543210, 0x5555555555555555, 0xaaaaaaaaaaaaaaaa}
	for x := range uint64(256) {
		list = append(list, x, 1<<63+x, ones-255+x, x<<8, x*0x0101010101010101)
	}
	for bit := range 64 {
		list = append(list, 1<<bit, ones-1<<bit)
	}
	return list
}

// chance answers numbers from 0 on that no rule of the program would make, always the same ones.
func chance() func() int {
	x := uint64(0x9e3779b97f4a7c15)
	return func() int {
		x ^= x << 13
		x ^= x >> 7
		x ^= x << 17
		return int(x >> 1)
	}
}
