package alu

import (
	wide "math/bits"

	"drawbridge/bits"
)

// pair is two numbers of which something is reckoned. Its methods are the sums, and how words are made of both.
type pair struct {
	a uint64
	b uint64
}

// allOnes is what a number divided by 0 is.
const allOnes = 1<<64 - 1

// low answers the word of x, noughts above.
func low(x uint64) uint64 { return bits.Field(x, wordBits-1, 0) }

// signed and unsigned answer both words, with the sign above, or noughts.
func (p pair) signed() pair   { return pair{bits.Sext(p.a, wordBits), bits.Sext(p.b, wordBits)} }
func (p pair) unsigned() pair { return pair{low(p.a), low(p.b)} }

// signedShift and unsignedShift answer the first word likewise, and how far a word is shifted.
func (p pair) signedShift() pair   { return pair{bits.Sext(p.a, wordBits), p.b % wordBits} }
func (p pair) unsignedShift() pair { return pair{low(p.a), p.b % wordBits} }

func (p pair) add() uint64 { return p.a + p.b }
func (p pair) sub() uint64 { return p.a - p.b }
func (p pair) xor() uint64 { return p.a ^ p.b }
func (p pair) or() uint64  { return p.a | p.b }
func (p pair) and() uint64 { return p.a & p.b }

func (p pair) shiftLeft() uint64  { return p.a << (p.b % 64) }
func (p pair) shiftRight() uint64 { return p.a >> (p.b % 64) }
func (p pair) shiftSign() uint64  { return uint64(int64(p.a) >> (p.b % 64)) }

func (p pair) isLess() uint64  { return flag(int64(p.a) < int64(p.b)) }
func (p pair) isBelow() uint64 { return flag(p.a < p.b) }

// flag answers 1, if ok, else 0.
func flag(ok bool) uint64 {
	if ok {
		return 1
	}
	return 0
}

func (p pair) mul() uint64 { return p.a * p.b }

func (p pair) upperUnsigned() uint64 {
	high, _ := wide.Mul64(p.a, p.b)
	return high
}

// A number below 0 is 2^64 less than it is unsigned, which takes the other one out of the upper half.
func (p pair) upperMixed() uint64  { return p.upperUnsigned() - p.b&signs(p.a) }
func (p pair) upperSigned() uint64 { return p.upperMixed() - p.a&signs(p.b) }

// signs answers x's sign in all 64 bits.
func signs(x uint64) uint64 { return uint64(int64(x) >> 63) }

func (p pair) div() uint64 {
	if p.b == 0 {
		return allOnes
	}
	// The least number by -1 needs no case of its own here and in rem: Go, too, divides modulo 2^64.
	return uint64(int64(p.a) / int64(p.b))
}

func (p pair) rem() uint64 {
	if p.b == 0 {
		return p.a
	}
	return uint64(int64(p.a) % int64(p.b))
}

func (p pair) divUnsigned() uint64 {
	if p.b == 0 {
		return allOnes
	}
	return p.a / p.b
}

func (p pair) remUnsigned() uint64 {
	if p.b == 0 {
		return p.a
	}
	return p.a % p.b
}

// amo answers what memory has that had a.
func (p pair) amo(f int) uint64 {
	switch f {
	case amoAdd:
		return p.add()
	case amoSwap:
		return p.b
	case amoXor:
		return p.xor()
	case amoOr:
		return p.or()
	case amoAnd:
		return p.and()
	case amoLeast, amoMost:
		return uint64(pick(int64(p.a), int64(p.b), f == amoMost))
	case amoLowest, amoHighest:
		return pick(p.a, p.b, f == amoHighest)
	}
	return p.a
}

// pick answers the greater one of two, or, unless that is asked for, the less.
func pick[T int64 | uint64](one T, other T, greater bool) T {
	if (one > other) == greater {
		return one
	}
	return other
}
