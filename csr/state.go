package csr

import "drawbridge/api"

// state is the registers. Its methods are what is read of each one, by its name, and what is left by what is written.
type state api.Csrs

// Parts of Status: the privilege that a trap to the Machine came from, of which 2 is none, and what keeps Satp from the Supervisor.
const (
	fromPriv = 3 << 11
	fromNone = 2 << 11
	trapSatp = 1 << 20
)

// Of how many bits User and Supervisor are stands in Status where nothing is kept: 2, for 64, of each; the Supervisor sees User's alone.
const (
	widths     = 15 << 32
	bothWidths = 10 << 32
	userWidth  = 2 << 32
)

// isa is of how many bits the Machine is (2, for 64, in bits 63-62), and a bit for each letter of what it does, from A on: A, C, I, M, S, U.
const isa = 2<<62 | 1<<0 | 1<<2 | 1<<8 | 1<<12 | 1<<18 | 1<<20

// Which bits are kept; sstatusBits are those of Status that the Supervisor has, mipBits those of Mip that are written, ssipBit that which the Supervisor writes: all others of Mip come from devices.
const (
	statusBits  = 1<<1 | 1<<3 | 1<<5 | 1<<7 | 1<<8 | fromPriv | 1<<17 | 1<<18 | 1<<19 | trapSatp | 1<<21 | 1<<22
	sstatusBits = 1<<1 | 1<<5 | 1<<8 | 1<<18 | 1<<19
	medelegBits = 1<<10 - 1 | 1<<12 | 1<<13 | 1<<15
	midelegBits = 1<<1 | 1<<5 | 1<<9
	mieBits     = 1<<1 | 1<<3 | 1<<5 | 1<<7 | 1<<9 | 1<<11
	mipBits     = 1<<1 | 1<<5 | 1<<9
	ssipBit     = 1 << 1
	tvecBits    = 1<<64 - 1 - 1<<1
	epcBits     = 1<<64 - 1 - 1<<0
)

func (s state) mstatus() uint64  { return s.Status&^widths | bothWidths }
func (s state) sstatus() uint64  { return s.Status&sstatusBits | userWidth }
func (s state) misa() uint64     { return isa }
func (s state) medeleg() uint64  { return s.Medeleg }
func (s state) mideleg() uint64  { return s.Mideleg }
func (s state) mie() uint64      { return s.Mie }
func (s state) sie() uint64      { return s.Mie & s.Mideleg }
func (s state) mip() uint64      { return s.Mip }
func (s state) sip() uint64      { return s.Mip & s.Mideleg }
func (s state) mtvec() uint64    { return s.Mtvec }
func (s state) stvec() uint64    { return s.Stvec }
func (s state) mscratch() uint64 { return s.Mscratch }
func (s state) sscratch() uint64 { return s.Sscratch }
func (s state) mepc() uint64     { return s.Mepc }
func (s state) sepc() uint64     { return s.Sepc }
func (s state) mcause() uint64   { return s.Mcause }
func (s state) scause() uint64   { return s.Scause }
func (s state) mtval() uint64    { return s.Mtval }
func (s state) stval() uint64    { return s.Stval }
func (s state) satp() uint64     { return s.Satp }
func (s state) cycle() uint64    { return s.Cycle }
func (s state) zero() uint64     { return 0 }

// with answers the registers when x is written to the register num, which may be written.
func (s state) with(num int, x uint64) state {
	switch num {
	case mstatus:
		s.Status = keptStatus(x)
	case sstatus:
		s.Status = merge(s.Status, x, sstatusBits)
	case medeleg:
		s.Medeleg = x & medelegBits
	case mideleg:
		s.Mideleg = x & midelegBits
	case mie:
		s.Mie = x & mieBits
	case sie:
		s.Mie = merge(s.Mie, x, s.Mideleg&mieBits)
	case mip:
		s.Mip = merge(s.Mip, x, mipBits)
	case sip:
		s.Mip = merge(s.Mip, x, s.Mideleg&ssipBit)
	case mtvec:
		s.Mtvec = x & tvecBits
	case stvec:
		s.Stvec = x & tvecBits
	case mscratch:
		s.Mscratch = x
	case sscratch:
		s.Sscratch = x
	case mepc:
		s.Mepc = x & epcBits
	case sepc:
		s.Sepc = x & epcBits
	case mcause:
		s.Mcause = x
	case scause:
		s.Scause = x
	case mtval:
		s.Mtval = x
	case stval:
		s.Stval = x
	case satp:
		if satpMay(x) {
			s.Satp = x
		}
	case mcycle:
		s.Cycle = x
	}
	return s
}

// merge answers old with these bits of x.
func merge(old uint64, x uint64, bits uint64) uint64 { return old&^bits | x&bits }

// keptStatus answers what is kept of x in Status.
func keptStatus(x uint64) uint64 {
	if x&fromPriv == fromNone {
		x &^= fromPriv
	}
	return x & statusBits
}

// satpMay tells whether Satp may be x: bits 63-60 say that there are no pages, or layer 8's.
func satpMay(x uint64) bool {
	mode := x >> 60
	return mode == 0 || mode == 8
}
