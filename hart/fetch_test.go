package hart

import (
	"fmt"
	"testing"

	"drawbridge/api"
)

// Short instructions: c.addi x8, 1; c.jalr x9; c.jr x9; c.ebreak.
const (
	shortAdd   = 0x0405
	shortJalr  = 0x9482
	shortJr    = 0x8482
	shortBreak = 0x9002
)

// longAdd is addi x8, x8, 1.
const longAdd = 0x00140413

// P14.3: Pc is 2 behind a short instruction, 4 behind a long one, wherever they begin.
func TestBehind(t *testing.T) {
	for _, at := range []uint64{0, 2, 4, 6, 58} {
		s := scened(64)
		s.h.Pc = base + at
		s.put(base+at, 2, shortAdd)
		s.becomes(t, "a short one", func(s *scene) { s.h.X[8]++; s.h.Pc -= 2 })
		s.put(base+at, 4, longAdd)
		s.becomes(t, "a long one", func(s *scene) { s.h.X[8]++ })
	}
	s := scened(64)
	s.put(base, 2, shortJalr)
	s.h.X[9] = 0x1235
	s.becomes(t, "c.jalr", func(s *scene) { s.h.X[1], s.h.Pc = base+2, 0x1234 })
	s.put(base, 2, shortJr)
	s.becomes(t, "c.jr", func(s *scene) { s.h.Pc = 0x1234 })
	s.put(base, 2, shortBreak)
	s.traps(t, "c.ebreak", 3, base)
}

// P14.3: the last bytes of memory: a short instruction may stand there, a long one whose second half is beyond may not, and the fault is the second half's.
func TestMemoryEnd(t *testing.T) {
	for _, size := range []int{2, 4, 6, 62, 63, 64, 65, api.MaxRam} {
		end := uint64(base + size)
		for at := base + uint64(size/2*2) - 6; at <= end+4; at += 2 {
			if at < base {
				continue
			}
			s := scened(size)
			s.h.Pc = at
			for n, byte := range []uint64{0x05, 0x04} {
				if at+uint64(n) < end {
					s.put(at+uint64(n), 1, byte)
				}
			}
			name := fmt.Sprintf("at %#x of %d", at-base, size)
			if at+2 <= end {
				s.becomes(t, "short "+name, func(s *scene) { s.h.X[8]++; s.h.Pc -= 2 })
			} else {
				s.traps(t, "short "+name, api.CauseFetchAccess, at)
			}
			for n, byte := range []uint64{0x13, 0x04, 0x14, 0x00} {
				if at+uint64(n) < end {
					s.put(at+uint64(n), 1, byte)
				}
			}
			switch {
			case at+4 <= end:
				s.becomes(t, "long "+name, func(s *scene) { s.h.X[8]++ })
			case at+2 <= end:
				s.traps(t, "long "+name, api.CauseFetchAccess, at+2)
			default:
				s.traps(t, "long "+name, api.CauseFetchAccess, at)
			}
		}
	}
}

// P14.3: nothing is fetched where no memory is: ahead of it, at devices, at the ends of all addresses; nothing is taken from a device for that.
func TestFetchNowhere(t *testing.T) {
	for _, at := range []uint64{0, 2, base - 2, base - 4, base + 1<<32, 0x2000000, 0x200bff8, 0xc200004, 0x10000000, 0x10001000, 1 << 63, ones - 1, ones - 3} {
		s := scened(64)
		s.h.Pc = at
		s.b.Uart.In = []byte("\x05\x04\x05\x04")
		s.traps(t, fmt.Sprintf("at %#x", at), api.CauseFetchAccess, at)
	}
}

// P14.3: how a fault is entered, told register by register.
func TestFetchFaultWorked(t *testing.T) {
	s := scened(64)
	s.h.Pc, s.h.Priv, s.h.Csr.Status = 0x124, api.Supervisor, mie|sie
	s.becomes(t, "to the Machine", func(s *scene) {
		s.h.Pc, s.h.Priv = machineTraps, 3
		s.h.Csr.Mcause, s.h.Csr.Mepc, s.h.Csr.Mtval, s.h.Csr.Status = 1, 0x124, 0x124, mpie|sie|1<<11
	})
	s.h.Csr.Medeleg = 1 << 1
	s.becomes(t, "to the Supervisor", func(s *scene) {
		s.h.Pc = supervisorTraps
		s.h.Csr.Scause, s.h.Csr.Sepc, s.h.Csr.Stval, s.h.Csr.Status = 1, 0x124, 0x124, mie|spie|spp
	})
}

// P14.3: words that are no instruction: cause 2, and tval the word, of a short one its 16 bits.
func TestNoInstruction(t *testing.T) {
	for _, e := range []struct{ word, tval uint64 }{
		{0x00000000, 0x0000},
		{0xabcd0000, 0x0000},
		{0xffff8000, 0x8000},
		{0x00009c41, 0x9c41},
		{0x12346001, 0x6001},
		{0x00004002, 0x4002},
		{0x000a8002, 0x8002},
		{0xffffffff, 0xffffffff},
		{0x00000003 | 7<<12, 0x00007003},
		{0x0000007f, 0x0000007f},
		{0x80000073, 0x80000073},
		{0x82005013, 0x82005013},
	} {
		for _, priv := range privs {
			s := scened(64)
			s.h.Priv = priv
			s.put(base, 4, e.word)
			s.traps(t, fmt.Sprintf("%#x", e.word), api.CauseIllegal, e.tval)
		}
	}
}

// P14.3: a short word that is none is so at the last two bytes of memory, too: what would be behind is not asked for.
func TestNoInstructionAtEnd(t *testing.T) {
	s := scened(64)
	s.h.Pc = base + 62
	s.put(base+62, 2, 0x8000)
	s.traps(t, "at the end", api.CauseIllegal, 0x8000)
}

// P14.3: with pages an instruction is fetched where its address leads, and its page gets its mark.
func TestFetchPages(t *testing.T) {
	for _, priv := range []int{api.User, api.Supervisor} {
		s := paged(priv)
		s.h.Pc = 0x1010
		s.put(codePage+0x10, 4, longAdd)
		s.becomes(t, "a long one", func(s *scene) { s.h.X[8]++; s.mark(1, pteA) })
		s.put(codePage+0x10, 2, shortAdd)
		s.becomes(t, "a short one", func(s *scene) { s.h.X[8]++; s.h.Pc -= 2; s.mark(1, pteA) })
		s.h.Priv = api.Machine
		s.traps(t, "the Machine has no pages", api.CauseFetchAccess, 0x1010)
	}
}

// P14.3: each half is translated by itself: the second one may stand on another page, which need not be behind in memory.
func TestFetchTwoPages(t *testing.T) {
	for _, priv := range []int{api.User, api.Supervisor} {
		s := paged(priv)
		s.h.Pc = 0x1ffe
		s.put(codePage+0xffe, 2, longAdd&0xffff)
		s.put(lastPage, 2, longAdd>>16)
		both := func(s *scene) { s.mark(1, pteA); s.mark(2, pteA) }
		s.becomes(t, "on two pages", func(s *scene) { s.h.X[8]++; both(s) })
		s.put(codePage+0xffe, 2, shortAdd)
		s.becomes(t, "a short one at the end of a page", func(s *scene) { s.h.X[8]++; s.h.Pc -= 2; s.mark(1, pteA) })
		s.put(codePage+0xffe, 2, 0xffff)
		s.put(lastPage, 2, 0x1234)
		s.trapsWith(t, "none on two pages", api.CauseIllegal, 0x1234ffff, both)
	}
}

// P14.3: a page from which may not be fetched: the fault is of the half that stands there; the first half's page has its mark nevertheless.
func TestFetchPageFaults(t *testing.T) {
	for _, priv := range []int{api.User, api.Supervisor} {
		for name, bits := range map[string]uint64{"not to be run": pteR | pteW, "none": 0} {
			s := paged(priv)
			s.h.Pc = 0x1ffe
			s.put(codePage+0xffe, 2, longAdd&0xffff)
			s.page(2, lastPage, bits)
			s.trapsWith(t, "second half "+name, api.CauseFetchPage, 0x2000, func(s *scene) { s.mark(1, pteA) })
			s.h.Pc = 0x1ffc
			s.page(1, codePage, bits)
			s.traps(t, "first half "+name, api.CauseFetchPage, 0x1ffc)
		}
		s := paged(priv)
		s.h.Pc = 0x1ffe
		s.put(codePage+0xffe, 2, longAdd&0xffff)
		s.page(2, base+8*pageOf, pteX)
		s.trapsWith(t, "second half is not memory", api.CauseFetchAccess, 0x2000, func(s *scene) { s.mark(1, pteA); s.mark(2, pteA) })
		s.page(1, 0x10000000, pteX)
		s.trapsWith(t, "first half is not memory", api.CauseFetchAccess, 0x1ffe, func(s *scene) { s.mark(1, pteA) })
		s.h.Pc = 1 << 38
		s.traps(t, "no address of pages", api.CauseFetchPage, 1<<38)
		s.h.Csr.Satp++
		s.h.Pc = 0x1000
		s.put(midTable+8*0, 8, 0)
		s.traps(t, "no table", api.CauseFetchPage, 0x1000)
		s.h.Csr.Satp = 8<<60 | 1
		s.traps(t, "a table that is not memory", api.CauseFetchAccess, 0x1000)
	}
}

// P14.3: what may be fetched hangs on the privilege: a User's page is not run by the Supervisor, whatever Status' bits 17, 18 and 12-11 say, nor the other way round.
func TestFetchPrivilege(t *testing.T) {
	for _, status := range []uint64{0, sum, mprv, mprv | mpp, mprv | 1<<11, sum | mprv} {
		s := paged(api.User)
		s.h.Csr.Status = status
		s.put(codePage, 4, longAdd)
		s.becomes(t, "a User's page by a User", func(s *scene) { s.h.X[8]++; s.mark(1, pteA) })
		s.h.Priv = api.Supervisor
		s.traps(t, "a User's page by the Supervisor", api.CauseFetchPage, 0x1000)
		s = paged(api.Supervisor)
		s.h.Csr.Status = status
		s.put(codePage, 4, longAdd)
		s.becomes(t, "the Supervisor's page by it", func(s *scene) { s.h.X[8]++; s.mark(1, pteA) })
		s.h.Priv = api.User
		s.traps(t, "the Supervisor's page by a User", api.CauseFetchPage, 0x1000)
		s.h.Priv, s.h.Pc = api.Machine, base
		s.becomes(t, "the Machine without pages", func(s *scene) { s.h.X[8]++ })
	}
}

// P14.3: behind the last address is the first one.
func TestFetchTurnsOver(t *testing.T) {
	s := paged(api.Supervisor)
	s.h.Pc = ones - 1
	s.page(511, codePage, pteX)
	s.page(0, lastPage, pteX)
	s.put(codePage+0xffe, 2, shortAdd)
	s.becomes(t, "a short one", func(s *scene) { s.h.X[8]++; s.h.Pc = 0; s.mark(511, pteA) })
	s.put(codePage+0xffe, 2, longAdd&0xffff)
	s.put(lastPage, 2, longAdd>>16)
	s.becomes(t, "a long one", func(s *scene) { s.h.X[8]++; s.h.Pc = 2; s.mark(511, pteA); s.mark(0, pteA) })
	s.page(0, lastPage, pteR)
	s.trapsWith(t, "a long one, and a fault", api.CauseFetchPage, 0, func(s *scene) { s.mark(511, pteA) })
}

// P14.3: register 0 stays 0, whatever has it for its target; what is done besides is done.
func TestRegisterZero(t *testing.T) {
	for _, e := range []struct {
		name string
		ins  api.Ins
		left func(s *scene)
	}{
		{"lui", api.Ins{Class: api.Lui, Imm: 4096}, nothing},
		{"auipc", api.Ins{Class: api.Auipc, Imm: 4096}, nothing},
		{"addi", api.Ins{Class: api.AluImm, Rs1: 3, Imm: 5}, nothing},
		{"add", api.Ins{Class: api.Alu, Rs1: 3, Rs2: 4}, nothing},
		{"jal", api.Ins{Class: api.Jal, Imm: 8}, func(s *scene) { s.h.Pc = base + 8 }},
		{"jalr", api.Ins{Class: api.Jalr, Rs1: 1}, func(s *scene) { s.h.Pc = 0x10000000 }},
		{"ld", api.Ins{Class: api.Load, F: 3, Rs1: 2}, nothing},
		{"lbu", api.Ins{Class: api.Load, F: 4, Rs1: 1}, func(s *scene) { s.b.Uart.In = []byte("i") }},
		{"amoadd", api.Ins{Class: api.Amo, Rs1: 2, Rs2: 3}, func(s *scene) { s.put(base+32, 8, 0x0303030303030303+0x1122334455667788) }},
		{"lr", api.Ins{Class: api.Amo, F: 2, Rs1: 2}, func(s *scene) { s.h.Reserve, s.h.Held = base+32, true }},
		{"sc", api.Ins{Class: api.Amo, F: 3, Rs1: 2, Rs2: 3}, nothing},
		{"csrrw", api.Ins{Class: api.Csr, F: 1, Rs1: 3, Imm: 0x340}, func(s *scene) { s.h.Csr.Mscratch = 0x0303030303030303 }},
	} {
		s := scened(64, e.ins)
		s.h.X[1], s.h.X[2], s.h.Csr.Mscratch = 0x10000000, base+32, 5
		s.b.Uart.In = []byte("hi")
		s.put(base+32, 8, 0x1122334455667788)
		s.becomes(t, e.name, e.left)
	}
}
