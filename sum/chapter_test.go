package sum

import (
	"bytes"
	"math"
	"slices"
)

// sumOf answers what Sum has to answer: pair by pair, a one that goes out at the top added at the bottom at once.
func sumOf(b []byte) int {
	if len(b)%2 == 1 {
		b = append(slices.Clone(b), 0)
	}
	total := 0
	for p := range slices.Chunk(b, 2) {
		total += 256*int(p[0]) + int(p[1])
		if total >= 65536 {
			total = total - 65536 + 1
		}
	}
	return 65535 - total
}

// pseudoOf answers what Pseudo has to answer, told by division.
func pseudoOf(src uint32, dst uint32, proto int, n int) []byte {
	digits := func(x int, many int) []byte {
		list := make([]byte, many)
		for i := range slices.Backward(list) {
			rest := x % 256
			if rest < 0 {
				rest += 256
			}
			list[i] = byte(rest)
			x = (x - rest) / 256
		}
		return list
	}
	b := append(digits(int(src), 4), digits(int(dst), 4)...)
	b = append(b, 0)
	b = append(b, digits(proto, 1)...)
	return append(b, digits(n, 2)...)
}

// patchOf answers what Patch has to answer.
func patchOf(b []byte, at int) []byte {
	c := slices.Clone(b)
	for i := 0; i < len(b)-1; i += 2 {
		if i == at {
			c[i], c[i+1] = 0, 0
			s := sumOf(c)
			c[i], c[i+1] = byte(s/256), byte(s%256)
		}
	}
	return c
}

// far are places that no text has, such among them whose sum with a size turns over, or which are some text's where they are cut to fewer bits.
var far = []int{
	math.MinInt, math.MinInt + 1, math.MinInt + 2, math.MinInt32, -1<<32 + 2, -65536, -256, -255, -254, -9, -8, -4, -3, -2, -1,
	1 << 16, 1<<16 + 2, 1 << 31, 1 << 32, 1<<32 + 2, 1 << 62, math.MaxInt - 3, math.MaxInt - 2, math.MaxInt - 1, math.MaxInt,
}

// chance answers numbers that no rule of the program would make, always the same ones.
func chance() func() uint64 {
	x := uint64(0x9e3779b97f4a7c15)
	return func() uint64 {
		x ^= x << 13
		x ^= x >> 7
		x ^= x << 17
		return x
	}
}

// text answers n bytes by chance.
func text(n int, next func() uint64) []byte {
	b := make([]byte, n)
	for i := range b {
		b[i] = byte(next() >> 40)
	}
	return b
}

// texts are of every small length: all 0, all 255, one byte of them not 0, rising ones, and some by chance.
func texts() [][]byte {
	next := chance()
	var list [][]byte
	for n := range 24 {
		list = append(list, make([]byte, n), bytes.Repeat([]byte{255}, n))
		for i := range n {
			one := make([]byte, n)
			one[i] = 1
			most := bytes.Repeat([]byte{255}, n)
			most[i] = 254
			list = append(list, one, most)
		}
		rising := make([]byte, n)
		for i := range rising {
			rising[i] = byte(i + 1)
		}
		list = append(list, rising)
		for range 20 {
			list = append(list, text(n, next))
		}
	}
	return list
}

// places answers all places of a text, some before and behind it, and far ones.
func places(b []byte) []int {
	list := slices.Clone(far)
	for at := -6; at < len(b)+8; at++ {
		list = append(list, at)
	}
	return list
}
