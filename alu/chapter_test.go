package alu

import (
	"math"
	"math/big"

	"drawbridge/api"
)

const ones = math.MaxUint64

// minus answers -x modulo 2^64.
func minus(x uint64) uint64 { return -x }

// numbers are those at which a sign, a word's end or a carry is easily lost.
func numbers() []uint64 {
	all := []uint64{
		0x0102030405060708, 0x8899aabbccddeeff, 0xaaaaaaaaaaaaaaaa, 0x5555555555555555,
		0x00000001ffffffff, 0xffffffff00000000, 0xffffffff00000001, 0x7fffffff80000000,
		0x80000000ffffffff, 0xfffffffe80000000, 0x12345678ffffffff, 0x87654321_00000000,
		3037000500, 4294967291, 6700417, 641, 10, 7, 5, 3,
	}
	for _, place := range []uint{0, 1, 15, 16, 30, 31, 32, 33, 47, 62, 63} {
		x := uint64(1) << place
		all = append(all, x-1, x, x+1, minus(x)-1, minus(x), minus(x)+1)
	}
	return all
}

// odd answers n numbers that no rule of the program would make, always the same ones.
func odd(n int) []uint64 {
	all := make([]uint64, n)
	x := uint64(0x9e3779b97f4a7c15)
	for i := range all {
		x ^= x << 13
		x ^= x >> 7
		x ^= x << 17
		all[i] = x >> (x % 61)
	}
	return all
}

// whole answers x as a number without an end, of its lowest n bits.
func whole(x uint64, n uint, signed bool) *big.Int {
	v := new(big.Int).SetUint64(x)
	v.Mod(v, power(n))
	if signed && v.Bit(int(n)-1) == 1 {
		v.Sub(v, power(n))
	}
	return v
}

// power answers 2^n.
func power(n uint) *big.Int { return new(big.Int).Lsh(big.NewInt(1), n) }

// back answers the lowest n bits of v with bit n-1, or noughts, in all places above.
func back(v *big.Int, n uint, signed bool) uint64 {
	cut := whole(new(big.Int).Mod(v, power(64)).Uint64(), n, signed)
	return cut.Mod(cut, power(64)).Uint64()
}

// reckoned is P4.1 and P4.2 told with numbers that have no end, of n bits of a and b.
func reckoned(f int, n uint, a uint64, b uint64) *big.Int {
	sa, sb, ua, ub := whole(a, n, true), whole(b, n, true), whole(a, n, false), whole(b, n, false)
	far := uint(b % uint64(n))
	v := new(big.Int)
	switch f {
	case api.Add:
		return v.Add(sa, sb)
	case api.Sub:
		return v.Sub(sa, sb)
	case api.Sll:
		return v.Mul(ua, power(far))
	case api.Srl:
		return v.Div(ua, power(far))
	case api.Sra:
		return v.Div(sa, power(far)) // Div rounds down
	case api.Slt:
		return v.SetInt64(truth(sa.Cmp(sb) < 0))
	case api.Sltu:
		return v.SetInt64(truth(ua.Cmp(ub) < 0))
	case api.Xor:
		return v.Xor(ua, ub)
	case api.Or:
		return v.Or(ua, ub)
	case api.And:
		return v.And(ua, ub)
	case api.Mul:
		return v.Mul(sa, sb)
	case 17:
		return v.Div(v.Mul(sa, sb), power(n))
	case 18:
		return v.Div(v.Mul(sa, ub), power(n))
	case 19:
		return v.Div(v.Mul(ua, ub), power(n))
	case api.Div, api.Rem:
		return divided(f == api.Div, sa, sb)
	case api.Divu, api.Remu:
		return divided(f == api.Divu, ua, ub)
	}
	return v
}

// divided answers the quotient, rounded to 0, or else the rest.
func divided(quotient bool, a *big.Int, b *big.Int) *big.Int {
	switch {
	case b.Sign() == 0 && quotient:
		return big.NewInt(-1)
	case b.Sign() == 0:
		return a
	case quotient:
		return new(big.Int).Quo(a, b)
	}
	return new(big.Int).Rem(a, b)
}

// truth answers 1, if ok, else 0.
func truth(ok bool) int64 {
	if ok {
		return 1
	}
	return 0
}

// stored is P4.3's Amo told with numbers that have no end, of n bits of a and b.
func stored(f int, n uint, a uint64, b uint64) *big.Int {
	sa, sb, ua, ub := whole(a, n, true), whole(b, n, true), whole(a, n, false), whole(b, n, false)
	v := new(big.Int)
	first, second := sa, sb
	if f == 24 || f == 28 {
		first, second = ua, ub
	}
	switch f {
	case 0:
		return v.Add(sa, sb)
	case 1:
		return ub
	case 4:
		return v.Xor(ua, ub)
	case 8:
		return v.Or(ua, ub)
	case 12:
		return v.And(ua, ub)
	case 16, 24:
		if first.Cmp(second) <= 0 {
			return first
		}
		return second
	case 20, 28:
		if first.Cmp(second) >= 0 {
			return first
		}
		return second
	}
	return ua
}

// strange are values of F far from all that may be, those that are one of them modulo a power of 2 among them.
func strange() []int {
	all := []int{
		math.MinInt, math.MinInt + 1, math.MinInt + 16, math.MinInt32, -256, -64, -32, -1,
		64, 128, 256, 256 + 20, 1 << 16, 1 << 32, 1<<32 + 4, 1<<32 + 20, math.MaxInt32, math.MaxInt - 1, math.MaxInt,
	}
	for f := -40; f <= 72; f++ {
		all = append(all, f)
	}
	return all
}
