package sv39

import (
	"bytes"
	"math"
	"slices"
	"testing"

	"drawbridge/api"
)

const (
	base  = api.RamBase
	ones  = math.MaxUint64
	upper = ones &^ (1<<39 - 1) // bits 63-39
	sum   = 1 << 18             // the names that RISC-V gives status' bits 18 and 19
	mxr   = 1 << 19
	on    = 8 << 60 // satp's part that turns pages on
)

// The bits of an entry, by RISC-V's names.
const (
	bitV = 1 << iota
	bitR
	bitW
	bitX
	bitU
	bitG
	bitA
	bitD
	bit8
	bit9
)

// word is a number, bit by bit, the lowest first.
type word [64]bool

// apart answers n's bits.
func apart(n uint64) word {
	var b word
	for i := range b {
		b[i] = n%2 == 1
		n /= 2
	}
	return b
}

// together answers the number of these bits, the lowest first.
func together(b []bool) uint64 {
	n := uint64(0)
	for _, bit := range slices.Backward(b) {
		n *= 2
		if bit {
			n++
		}
	}
	return n
}

// joined answers the number whose lowest bits are those of low, and whose others those of high.
func joined(high []bool, low []bool) uint64 { return together(slices.Concat(low, high)) }

// page12 are the bits of an address that a page's number leaves.
var page12 = make([]bool, 12)

// steps are the chapter's three levels: which bits of the address they take, and how many of the lowest bits of a leaf's number must be 0.
var steps = []struct{ high, low, empty int }{{38, 30, 18}, {29, 21, 9}, {20, 12, 0}}

// question is a call of Translate.
type question struct {
	mem    []byte
	satp   uint64
	status uint64
	priv   int
	at     uint64
	kind   int
}

// answer is what Translate answers.
type answer struct {
	at    uint64
	mem   []byte
	cause int
	ok    bool
}

// ask calls Translate.
func (q question) ask() answer {
	at, s, cause, ok := Translate(api.Ram{Data: q.mem}, q.satp, q.status, q.priv, q.at, q.kind)
	return answer{at, s.Data, cause, ok}
}

// like tells whether two answers are the same.
func (s answer) like(t answer) bool {
	return s.at == t.at && s.cause == t.cause && s.ok == t.ok && bytes.Equal(s.mem, t.mem)
}

// fault answers what the chapter says of a fault.
func (q question) fault(page bool) answer {
	return answer{0, q.mem, faultOf(q.kind, page), false}
}

// faultOf answers what Fault has to answer.
func faultOf(kind int, page bool) int {
	causes := map[bool]map[int]int{true: {0: 12, 2: 15}, false: {0: 1, 2: 7}}
	if cause, ok := causes[page][kind]; ok {
		return cause
	}
	if page {
		return 13
	}
	return 5
}

// expect answers what Translate has to answer.
func (q question) expect() answer {
	satp, at := apart(q.satp), apart(q.at)
	if q.priv >= 3 || together(satp[60:]) != 8 {
		return answer{q.at, q.mem, 0, true}
	}
	for _, bit := range at[39:] {
		if bit != at[38] {
			return q.fault(true)
		}
	}
	return q.step(0, joined(satp[:44], page12))
}

// step answers what comes of the table on a level, and of those behind it.
func (q question) step(level int, table uint64) answer {
	at := apart(q.at)
	s := steps[level]
	place := table + 8*together(at[s.low:s.high+1])
	e, ok := q.eight(place)
	if !ok {
		return q.fault(false)
	}
	bit := func(mask uint64) bool { return together(e[:])&mask != 0 }
	number := e[10:54]
	switch {
	case !bit(bitV), bit(bitW) && !bit(bitR), slices.Contains(e[54:], true):
		return q.fault(true)
	case !bit(bitR) && !bit(bitX) && (bit(bitU) || bit(bitA) || bit(bitD) || level == 2):
		return q.fault(true)
	case !bit(bitR) && !bit(bitX):
		return q.step(level+1, joined(number, page12))
	case q.barred(bit), slices.Contains(number[:s.empty], true):
		return q.fault(true)
	}
	e[6] = true
	e[7] = e[7] || q.kind == 2
	return answer{joined(number[s.empty:], at[:s.low]), q.with(place, together(e[:])), 0, true}
}

// barred tells whether a leaf with these bits is not for who asks.
func (q question) barred(bit func(mask uint64) bool) bool {
	status := apart(q.status)
	switch {
	case q.priv < 1 && !bit(bitU):
		return true
	case q.priv >= 1 && bit(bitU) && (q.kind == 0 || !status[18]):
		return true
	case q.kind == 0:
		return !bit(bitX)
	case q.kind == 2:
		return !bit(bitW)
	case status[19]:
		return !bit(bitR) && !bit(bitX)
	}
	return !bit(bitR)
}

// eight answers the number of eight bytes at a place, and whether they are all memory.
func (q question) eight(place uint64) (word, bool) {
	n := uint64(0)
	for i := range uint64(8) {
		at := place + 7 - i
		if at < base || at-base >= uint64(len(q.mem)) {
			return word{}, false
		}
		n = n*256 + uint64(q.mem[at-base])
	}
	return apart(n), true
}

// with answers memory with a number's eight bytes at a place.
func (q question) with(place uint64, n uint64) []byte {
	mem := slices.Clone(q.mem)
	put(mem, place, n)
	return mem
}

// put writes a number's eight bytes, the lowest first.
func put(mem []byte, place uint64, n uint64) {
	for i := range uint64(8) {
		mem[place-base+i] = byte(n % 256)
		n /= 256
	}
}

// get reads a number of eight bytes.
func get(mem []byte, place uint64) uint64 {
	n := uint64(0)
	for i := range uint64(8) {
		n = n*256 + uint64(mem[place-base+7-i])
	}
	return n
}

// hold holds what Translate answers against the chapter.
func (q question) hold(t *testing.T) answer {
	t.Helper()
	got, want := q.ask(), q.expect()
	if !got.like(want) {
		t.Fatalf("%s: %s, not %s", q.tell(), got.tell(q.mem), want.tell(q.mem))
	}
	return got
}
