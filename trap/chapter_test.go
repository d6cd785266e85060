package trap

import (
	"math"
	"slices"

	"drawbridge/api"
)

const ones = math.MaxUint64

// The bits of Status that traps and returns look at or change, by the names that RISC-V gives them; mpp is bits 12-11.
const (
	sie  = 1
	mie  = 3
	spie = 5
	mpie = 7
	spp  = 8
	mpp  = 11
	mprv = 17
)

// word is a register, bit by bit.
type word [64]bool

// apart answers x's bits.
func apart(x uint64) word {
	var w word
	for i := range w {
		w[i] = x%2 == 1
		x /= 2
	}
	return w
}

// together answers the number of w's bits.
func (w word) together() uint64 {
	x := uint64(0)
	for _, bit := range slices.Backward(w[:]) {
		x *= 2
		if bit {
			x++
		}
	}
	return x
}

// has tells whether bit i of x is 1.
func has(x uint64, i int) bool { return x>>i&1 == 1 }

// modulo answers the number from 0 to n-1 that x is modulo n.
func modulo(x int, n int) int { return (x%n + n) % n }

// wrapped answers x modulo 2^64.
func wrapped(x int) uint64 {
	if x < 0 {
		return ones - uint64(-(x + 1))
	}
	return uint64(x)
}

// toSupervisor tells to whom the chapter sends a trap.
func toSupervisor(c api.Csrs, priv int, cause int, irq bool) bool {
	if priv > 1 {
		return false
	}
	if irq {
		return has(c.Mideleg, modulo(cause, 64))
	}
	return has(c.Medeleg, modulo(cause, 64))
}

// enterOf answers what Enter has to answer.
func enterOf(c api.Csrs, priv int, pc uint64, cause int, irq bool, tval uint64) (api.Csrs, int, uint64) {
	why := apart(wrapped(cause))
	why[63] = why[63] || irq
	from := pc - pc%2
	s := apart(c.Status)
	var vec uint64
	to := 3
	if toSupervisor(c, priv, cause, irq) {
		s[spie], s[sie], s[spp] = s[sie], false, modulo(priv, 2) == 1
		c.Scause, c.Sepc, c.Stval, vec, to = why.together(), from, tval, c.Stvec, 1
	} else {
		low := modulo(priv, 4)
		s[mpie], s[mie], s[mpp], s[mpp+1] = s[mie], false, low == 1 || low == 3, low == 3
		c.Mcause, c.Mepc, c.Mtval, vec = why.together(), from, tval, c.Mtvec
	}
	c.Status = s.together()
	where := vec / 4 * 4
	if irq && vec%2 == 1 {
		where += 4 * wrapped(cause)
	}
	return c, to, where
}

// mretOf answers what Mret has to answer.
func mretOf(c api.Csrs) (api.Csrs, int, uint64) {
	s := apart(c.Status)
	priv := 0
	if s[mpp] {
		priv++
	}
	if s[mpp+1] {
		priv += 2
	}
	s[mie], s[mpie], s[mpp], s[mpp+1] = s[mpie], true, false, false
	s[mprv] = s[mprv] && priv == 3
	c.Status = s.together()
	return c, priv, c.Mepc
}

// sretOf answers what Sret has to answer.
func sretOf(c api.Csrs) (api.Csrs, int, uint64) {
	s := apart(c.Status)
	priv := 0
	if s[spp] {
		priv = 1
	}
	s[sie], s[spie], s[spp], s[mprv] = s[spie], true, false, false
	c.Status = s.together()
	return c, priv, c.Sepc
}

// lines are the interrupts that there are, in their order.
var lines = []int{11, 3, 7, 9, 1, 5}

// pendingOf answers what Pending has to answer: it goes along the order twice, and asks of each interrupt whether it comes.
func pendingOf(c api.Csrs, priv int) (int, bool) {
	for _, ours := range []bool{false, true} {
		for _, i := range lines {
			if has(c.Mip, i) && has(c.Mie, i) && has(c.Mideleg, i) == ours && letIn(c.Status, priv, ours) {
				return i, true
			}
		}
	}
	return 0, false
}

// letIn tells whether interrupts come that the Supervisor has (ours), or has not.
func letIn(status uint64, priv int, ours bool) bool {
	switch {
	case ours && priv > 1:
		return false
	case ours && priv == 1:
		return has(status, sie)
	case !ours && priv >= 3:
		return has(status, mie)
	}
	return true
}

// chance answers numbers that no rule of the program would make, always the same ones.
func chance() func() uint64 {
	x := uint64(0x9e3779b97f4a7c15)
	return func() uint64 {
		x ^= x << 13
		x ^= x >> 7
		x ^= x << 17
		return x
	}
}

// fields answers where each register of c stands.
func fields(c *api.Csrs) []*uint64 {
	return []*uint64{
		&c.Status, &c.Medeleg, &c.Mideleg, &c.Mie, &c.Mip, &c.Mtvec, &c.Mscratch, &c.Mepc, &c.Mcause, &c.Mtval,
		&c.Stvec, &c.Sscratch, &c.Sepc, &c.Scause, &c.Stval, &c.Satp, &c.Cycle,
	}
}

// filled answers registers, right or not, that have each what next answers.
func filled(next func() uint64) api.Csrs {
	c := api.Csrs{}
	for _, f := range fields(&c) {
		*f = next()
	}
	return c
}

// right answers c with what layer 5 keeps of it.
func right(c api.Csrs) api.Csrs {
	c.Status &= 0x7e19aa
	if has(c.Status, mpp+1) && !has(c.Status, mpp) {
		c.Status -= 1 << (mpp + 1)
	}
	c.Medeleg &= 0xb3ff
	c.Mideleg &= 0x222
	c.Mie &= 0xaaa
	c.Mip &= 0xaaa
	c.Mtvec &^= 2
	c.Stvec &^= 2
	c.Mepc &^= 1
	c.Sepc &^= 1
	c.Satp &= 8<<60 | (1<<60 - 1)
	return c
}

// some are registers that may be, and some that may not: none set, all set, and as chance would have it.
func some() []api.Csrs {
	full := filled(func() uint64 { return ones })
	cs := []api.Csrs{{}, full, right(full)}
	next := chance()
	for range 12 {
		c := filled(next)
		cs = append(cs, c, right(c))
	}
	return cs
}

// The privileges that there are, and others.
var (
	levels = []int{api.User, api.Supervisor, api.Machine}
	privs  = []int{math.MinInt, -6, -5, -4, -3, -2, -1, 0, 1, 2, 3, 4, 5, 6, 7, 1 << 32, math.MaxInt}
)

// causes are all that Medeleg and Mideleg have a bit of, and some before and behind, up to the ends.
func causes() []int {
	cs := []int{math.MinInt, math.MinInt + 1, -129, 1 << 32, 1 << 62, math.MaxInt - 1, math.MaxInt}
	for i := -65; i <= 130; i++ {
		cs = append(cs, i)
	}
	return cs
}

// places are those at which a bit of a place, or of a value, is easily lost.
func places() []uint64 {
	xs := []uint64{0, 1, 2, 3, 0x80000000, 0x80000101, 0x0123456789abcdef, ones - 1, ones}
	for i := range 64 {
		xs = append(xs, 1<<i, ones-1<<i)
	}
	return xs
}
