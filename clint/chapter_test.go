package clint

import (
	"fmt"
	"math"

	"drawbridge/api"
)

const ones = math.MaxUint64

// row is a row of what the chapter tells: what is loaded with a size at a place, and what is left when x is stored there. Halves are told by division, so that no bit is masked here as the program masks it.
type row struct {
	name  string
	off   uint64
	size  int
	load  func(c api.Clint) uint64
	store func(c *api.Clint, x uint64)
}

const half32 = 1 << 32

var rows = []row{
	{"Soft", 0, 4, softOf, func(c *api.Clint, x uint64) { c.Soft = x%2 == 1 }},
	{"Cmp", 0x4000, 8, func(c api.Clint) uint64 { return c.Cmp }, func(c *api.Clint, x uint64) { c.Cmp = x }},
	{"Cmp's lowest", 0x4000, 4, func(c api.Clint) uint64 { return c.Cmp % half32 }, func(c *api.Clint, x uint64) { c.Cmp = joined(c.Cmp/half32, x%half32) }},
	{"Cmp's highest", 0x4004, 4, func(c api.Clint) uint64 { return c.Cmp / half32 }, func(c *api.Clint, x uint64) { c.Cmp = joined(x%half32, c.Cmp%half32) }},
	{"Time", 0xbff8, 8, func(c api.Clint) uint64 { return c.Time }, func(c *api.Clint, x uint64) { c.Time = x }},
	{"Time's lowest", 0xbff8, 4, func(c api.Clint) uint64 { return c.Time % half32 }, func(c *api.Clint, x uint64) { c.Time = joined(c.Time/half32, x%half32) }},
	{"Time's highest", 0xbffc, 4, func(c api.Clint) uint64 { return c.Time / half32 }, func(c *api.Clint, x uint64) { c.Time = joined(x%half32, c.Time%half32) }},
}

// softOf answers what is loaded of Soft.
func softOf(c api.Clint) uint64 {
	if c.Soft {
		return 1
	}
	return 0
}

// tell answers a timer as a text.
func tell(c api.Clint) string {
	return fmt.Sprintf("{Time %#x, Cmp %#x, Soft %v}", c.Time, c.Cmp, c.Soft)
}

// joined answers the number of both halves.
func joined(high uint64, low uint64) uint64 { return high*half32 + low }

// rowAt answers the row of a place and a size, and whether there is one.
func rowAt(off uint64, size int) (row, bool) {
	for _, r := range rows {
		if r.off == off && r.size == size {
			return r, true
		}
	}
	return row{}, false
}

// loadOf answers what Load has to answer.
func loadOf(c api.Clint, off uint64, size int) (uint64, bool) {
	r, ok := rowAt(off, size)
	if !ok {
		return 0, false
	}
	return r.load(c), true
}

// storeOf answers what Store has to answer.
func storeOf(c api.Clint, off uint64, size int, x uint64) (api.Clint, bool) {
	r, ok := rowAt(off, size)
	if ok {
		r.store(&c, x)
	}
	return c, ok
}

// sizes are those that there are, and such as there are not, those among them that could be taken for one that there is.
var sizes = []int{
	4, 8, 0, 1, 2, 3, 5, 6, 7, 9, 10, 12, 15, 16, 17, 24, 32, 40, 64, 128, 256, 260, 264, 1 << 16, 1<<16 + 4, 1<<16 + 8,
	1<<32 + 4, 1<<32 + 8, 1<<62 + 8, math.MaxInt - 3, math.MaxInt, -1, -2, -4, -8, -12, -16, -252, -248, -1<<32 + 4, -1<<32 + 8, math.MinInt + 4, math.MinInt + 8, math.MinInt,
}

// far are places that none of the registers has, some of them such as have one where they are cut to fewer bits.
func far() []uint64 {
	list := []uint64{1<<32 - 1, 1 << 32, 1<<63 - 1, 1 << 63, ones - 15, ones - 8, ones - 7, ones - 4, ones - 3, ones - 2, ones - 1, ones}
	for _, r := range rows {
		for bit := 16; bit < 64; bit++ {
			list = append(list, r.off+1<<bit)
		}
		list = append(list, ^r.off, -r.off-1, -r.off-4, -r.off-8)
	}
	return list
}

// numbers have every bit, none, each one alone, all but one, and such as tell their bytes apart.
func numbers() []uint64 {
	list := []uint64{
		0, ones, 2, 3, half32 - 1, half32, half32 + 1, ones - half32 + 1, ones - half32 + 2,
		0x8899aabbccddeeff, 0x0123456789abcdef, 0xfedcba9876543210, 0x5555555555555555, 0xaaaaaaaaaaaaaaaa,
	}
	for i := range 64 {
		list = append(list, 1<<i, ones-1<<i)
	}
	return list
}

// timers are some, those among them that have nothing or everything.
func timers() []api.Clint {
	return []api.Clint{
		{},
		{Soft: true},
		{Time: ones},
		{Cmp: ones},
		{Time: ones, Cmp: ones, Soft: true},
		{Time: 0x1122334455667788, Cmp: 0x99aabbccddeeff00},
		{Time: 0x99aabbccddeeff00, Cmp: 0x1122334455667788, Soft: true},
		{Time: half32 - 1, Cmp: ones - half32 + 1},
		{Time: 1 << 63, Cmp: 1, Soft: true},
	}
}

// chance answers numbers that no rule of the program would make, always the same ones.
func chance() func() uint64 {
	x := uint64(0x9e3779b97f4a7c15)
	return func() uint64 {
		x ^= x << 13
		x ^= x >> 7
		x ^= x << 17
		return x
	}
}
