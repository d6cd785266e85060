package csr

import (
	"errors"
	"strconv"

	"drawbridge/api"
)

// Why a register is refused: there is none for who asks, or it is there, but not to be written.
var (
	errNone     = errors.New("there is no such register")
	errOnlyRead = errors.New("it is only read")
)

// refusal wraps why a register is refused with what was asked for, and by whom.
type refusal struct {
	num  int
	priv int
	why  error
}

func (r refusal) Error() string {
	return "register " + strconv.Itoa(r.num) + ", privilege " + strconv.Itoa(r.priv) + ": " + r.why.Error()
}

func (r refusal) Unwrap() error { return r.why }

// The registers' numbers, by the names that RISC-V gives them.
const (
	sstatus   = 0x100
	sie       = 0x104
	stvec     = 0x105
	sscratch  = 0x140
	sepc      = 0x141
	scause    = 0x142
	stval     = 0x143
	sip       = 0x144
	satp      = 0x180
	mstatus   = 0x300
	misa      = 0x301
	medeleg   = 0x302
	mideleg   = 0x303
	mie       = 0x304
	mtvec     = 0x305
	mscratch  = 0x340
	mepc      = 0x341
	mcause    = 0x342
	mtval     = 0x343
	mip       = 0x344
	mcycle    = 0xb00
	cycle     = 0xc00
	mvendorid = 0xf11
	marchid   = 0xf12
	mimpid    = 0xf13
	mhartid   = 0xf14
)

// reader answers what is read of a register.
type reader func(state) uint64

// readerOf answers how the register num is read; nil, if there is none.
func readerOf(num int) reader {
	rows := [...]struct {
		num  int
		read reader
	}{
		{sstatus, state.sstatus},
		{sie, state.sie},
		{stvec, state.stvec},
		{sscratch, state.sscratch},
		{sepc, state.sepc},
		{scause, state.scause},
		{stval, state.stval},
		{sip, state.sip},
		{satp, state.satp},
		{mstatus, state.mstatus},
		{misa, state.misa},
		{medeleg, state.medeleg},
		{mideleg, state.mideleg},
		{mie, state.mie},
		{mtvec, state.mtvec},
		{mscratch, state.mscratch},
		{mepc, state.mepc},
		{mcause, state.mcause},
		{mtval, state.mtval},
		{mip, state.mip},
		{mcycle, state.cycle},
		{cycle, state.cycle},
		{mvendorid, state.zero},
		{marchid, state.zero},
		{mimpid, state.zero},
		{mhartid, state.zero},
	}
	for _, r := range rows {
		if r.num == num {
			return r.read
		}
	}
	return nil
}

// find answers how the register num is read by one with the privilege priv; beside errOnlyRead, too.
func (s state) find(num int, priv int) (reader, error) {
	read := readerOf(num)
	switch {
	case read == nil || priv < levelOf(num) || s.hides(num, priv):
		return nil, refusal{num, priv, errNone}
	case onlyRead(num):
		return read, refusal{num, priv, errOnlyRead}
	}
	return read, nil
}

// levelOf answers the least privilege that reads the register num, by bits 9-8.
func levelOf(num int) int { return num >> 8 & 3 }

// onlyRead tells whether the register num is never written, by bits 11-10.
func onlyRead(num int) bool { return num>>10&3 == 3 }

// hides tells whether Status keeps the register num from one with the privilege priv that else reads it.
func (s state) hides(num int, priv int) bool {
	return num == satp && priv == api.Supervisor && s.Status&trapSatp != 0
}
