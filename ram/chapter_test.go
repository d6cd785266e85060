package ram

import (
	"bytes"
	"math"
	"slices"
	"testing"

	"drawbridge/api"
)

const (
	base = api.RamBase
	ones = math.MaxUint64
)

// places says which byte of a memory has which address. The chapter's rules are told by it address by address, so that no sum is made of an address and a number of bytes.
type places map[uint64]int

// placesOf answers the places of a memory of n bytes.
func placesOf(n int) places {
	p := places{}
	at := uint64(base)
	for i := range n {
		p[at] = i
		at++
	}
	return p
}

// of answers the places of n bytes from at on, and true; none, false, unless each of them is memory.
func (p places) of(at uint64, n int) ([]int, bool) {
	if n < 0 {
		return nil, false
	}
	if n == 0 {
		_, here := p[at]
		_, before := p[at-1]
		return nil, here || before || at == base
	}
	list := make([]int, 0, min(n, len(p)))
	for range n {
		i, is := p[at]
		if !is {
			return nil, false
		}
		list = append(list, i)
		at++
	}
	return list, true
}

// bytes answers what Bytes has to answer.
func (p places) bytes(r api.Ram, at uint64, n int) ([]byte, bool) {
	list, ok := p.of(at, n)
	b := []byte{}
	for _, i := range list {
		b = append(b, r.Data[i])
	}
	return b, ok
}

// read answers what Read has to answer.
func (p places) read(r api.Ram, at uint64, size int) (uint64, bool) {
	if !slices.Contains(sizes, size) {
		return 0, false
	}
	b, ok := p.bytes(r, at, size)
	x := uint64(0)
	for _, one := range slices.Backward(b) {
		x = x*256 + uint64(one)
	}
	return x, ok
}

// fill answers what Fill has to answer.
func (p places) fill(r api.Ram, at uint64, b []byte) (api.Ram, bool) {
	list, ok := p.of(at, len(b))
	s := api.Ram{Data: slices.Clone(r.Data)}
	for k, i := range list {
		s.Data[i] = b[k]
	}
	return s, ok
}

// write answers what Write has to answer.
func (p places) write(r api.Ram, at uint64, size int, x uint64) (api.Ram, bool) {
	if !slices.Contains(sizes, size) {
		return api.Ram{Data: slices.Clone(r.Data)}, false
	}
	b := []byte{}
	for range size {
		b = append(b, byte(x%256))
		x /= 256
	}
	return p.fill(r, at, b)
}

// sizes are those that numbers have.
var sizes = []int{1, 2, 4, 8}

// wrongSizes are those that no number has, such among them as could be taken for one that has.
var wrongSizes = []int{
	math.MinInt, math.MinInt + 1, -256, -8, -4, -2, -1, 0, 3, 5, 6, 7, 9, 10, 12, 15, 16, 17, 32, 64, 128,
	256, 257, 260, 264, 1 << 16, 1<<32 + 1, 1<<32 + 2, 1<<32 + 4, 1<<32 + 8, math.MaxInt - 1, math.MaxInt,
}

// far are addresses that no memory has: below RamBase, above all that there may be, and such as are memory's where they are cut to fewer bits.
var far = []uint64{
	0, 1, 8, 0xffff, 0x10000, 0x7fff0000, base - 65536, base - 9, base - 8, base - 2, base - 1,
	base + api.MaxRam + 1, base + 1<<20, 1<<32 - 1, 1 << 32, 1<<32 + 1, 1<<32 + base, 1<<32 + base + 3,
	1 << 62, 1<<63 - 1, 1 << 63, 1<<63 + 1, 1<<63 + base, 1<<63 + base + 2,
	ones - base, ones - base + 1, ones - 65536, ones - 8, ones - 7, ones - 3, ones - 1, ones,
}

// values are numbers whose bytes tell where each of them went.
var values = []uint64{0, 1, 0x8899aabbccddeeff, 1 << 63, ones}

// memory answers memory of n bytes (0, too), no two near ones alike and none 0.
func memory(n int) api.Ram {
	r := api.Ram{Data: make([]byte, n)}
	for i := range r.Data {
		r.Data[i] = byte(i%251 + 1)
	}
	return r
}

// list answers n bytes that memory answers nowhere in this order.
func list(n int) []byte {
	b := make([]byte, n)
	for i := range b {
		b[i] = byte(0xfe - i%250)
	}
	return b
}

// around answers the addresses of r's bytes (of a great one the first and the last), some before and behind, and far ones.
func around(r api.Ram) []uint64 {
	all := slices.Clone(far)
	n := uint64(len(r.Data))
	for i := range min(n, 40) + 20 {
		all = append(all, base-10+i)
		if n > 40 {
			all = append(all, base+n-20+i)
		}
	}
	return all
}

// small are memories of few bytes, none among them.
func small() []api.Ram {
	rs := []api.Ram{{}, {Data: []byte{}}}
	for n := 1; n <= 20; n++ {
		rs = append(rs, memory(n))
	}
	return rs
}

// some are small memories, and great ones.
func some() []api.Ram {
	return append(small(), memory(4096), memory(api.MaxRam))
}

// chance answers numbers that no rule of the program would make, always the same ones.
func chance() func() uint64 {
	x := uint64(0x9e3779b97f4a7c15)
	return func() uint64 {
		x ^= x << 13
		x ^= x >> 7
		x ^= x << 17
		return x
	}
}

// same tells whether two memories have the same bytes.
func same(r api.Ram, s api.Ram) bool { return bytes.Equal(r.Data, s.Data) }

// unshared fails the test if a change of what was answered, in the room behind its end, too, is seen in what was handed in.
func unshared(t *testing.T, answer []byte, given []byte) {
	t.Helper()
	was := slices.Clone(given[:cap(given)])
	all := answer[:cap(answer)]
	for i := range all {
		all[i] ^= 0xff
	}
	if !bytes.Equal(given[:cap(given)], was) {
		t.Fatal("what is answered shares memory with what was handed in")
	}
}
