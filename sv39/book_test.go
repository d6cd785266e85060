package sv39

import (
	"fmt"
	"slices"

	"drawbridge/api"
)

// tell tells a question without its memory.
func (q question) tell() string {
	return fmt.Sprintf("Translate(%d bytes, satp %#x, status %#x, priv %d, at %#x, kind %d)",
		len(q.mem), q.satp, q.status, q.priv, q.at, q.kind)
}

// tell tells an answer, and what of memory is another than it was.
func (s answer) tell(was []byte) string {
	text := fmt.Sprintf("%#x, cause %d, %v", s.at, s.cause, s.ok)
	if len(s.mem) != len(was) {
		return text + fmt.Sprintf(", %d bytes", len(s.mem))
	}
	for i := range was {
		if s.mem[i] != was[i] {
			text += fmt.Sprintf(", byte %#x is %#x, was %#x", i, s.mem[i], was[i])
		}
	}
	return text
}

// noise answers n bytes, no two near ones alike and none 0.
func noise(n int) []byte {
	b := make([]byte, n)
	for i := range b {
		b[i] = byte(i%251 + 1)
	}
	return b
}

// The tables of book, and the entries of them that address takes.
const (
	first   = base + 0x2000
	second  = base + 0x1000
	third   = base + 0x3000
	address = 0x0a5<<30 | 0x13c<<21 | 0x1e7<<12 | 0xabc
	one     = first + 8*0x0a5
	two     = second + 8*0x13c
	three   = third + 8*0x1e7
)

// numbered answers an entry that names the page at this address.
func numbered(page uint64, bits uint64) uint64 { return page/4096<<10 | bits }

// book answers memory with three tables that lead to the entry e on the level 0, 1 or 2, with noise all around.
func book(level int, e uint64) []byte {
	mem := noise(0x4000)
	places := []uint64{one, two, three}
	put(mem, one, numbered(second, bitV))
	put(mem, two, numbered(third, bitV))
	put(mem, places[level], e)
	return mem
}

// place answers where the entry on a level of book stands.
func place(level int) uint64 { return []uint64{one, two, three}[level] }

// bookOf answers the question of address to one who finds the entry e on a level.
func bookOf(level int, e uint64, priv int, kind int, status uint64) question {
	return question{book(level, e), on | first/4096, status, priv, address, kind}
}

// leafPage answers a page that a leaf on each of the levels may name, other on each, and nowhere in memory.
func leafPage(level int) uint64 { return []uint64{0x5a << 30, 0x2bcd << 21, 0x123456789 << 12}[level] }

// The kinds that there are, and others, which are as Reading; the privileges, and others; status with bits 18 and 19 each way.
var (
	kinds    = []int{api.Fetch, api.Reading, api.Writing, 3, -1, 4, 256, 258, 1 << 32, 1<<32 + 2, -1 << 63, 1<<63 - 1}
	fewKinds = []int{api.Fetch, api.Reading, api.Writing, 3, -1}
	privs    = []int{-1 << 63, -3, -1, api.User, api.Supervisor, 2, api.Machine, 4, 1 << 32, 1<<63 - 1}
	lower    = []int{-1 << 63, -1, api.User, api.Supervisor, 2}
	statuses = []uint64{0, sum, mxr, sum | mxr, ones, ones &^ sum, ones &^ mxr, ones &^ (sum | mxr)}
)

// chance answers numbers that no rule of the program would make, always the same ones.
func chance() func() uint64 {
	n := uint64(0x9e3779b97f4a7c15)
	return func() uint64 {
		n ^= n << 13
		n ^= n >> 7
		n ^= n << 17
		return n
	}
}

// oneTable answers memory of one page: a table whose entry 1 leads to itself, so that each level takes its entries from it.
func oneTable() []byte {
	mem := make([]byte, 4096)
	put(mem, base+8, numbered(base, bitV))
	return mem
}

// inOneTable answers an address for which the entry 1 is taken on the levels ahead of this one, and the entry n on it.
func inOneTable(level int, n uint64) uint64 {
	at := uint64(0xabc)
	for i, s := range steps {
		switch {
		case i < level:
			at |= 1 << s.low
		case i == level:
			at |= n << s.low
		default:
			at |= 0x155 << s.low
		}
	}
	return at
}

// shared tells whether a change of what was answered, in the room behind its end, too, is seen in what was handed in.
func shared(answer []byte, given []byte) bool {
	was := slices.Clone(given[:cap(given)])
	all := answer[:cap(answer)]
	for i := range all {
		all[i] ^= 0xff
	}
	return !slices.Equal(given[:cap(given)], was)
}
