package hart

import (
	"fmt"
	"testing"

	"drawbridge/api"
)

// csrOf answers what reads and writes a register's number, by x8, or the number 8, into x7.
func csrOf(f int, num int) api.Ins {
	return api.Ins{Class: api.Csr, F: f, Rd: 7, Rs1: 8, Imm: uint64(num)}
}

// P14.7: each F: what the register becomes, and what Rd is.
func TestCsr(t *testing.T) {
	for _, e := range []struct {
		f    int
		left uint64
	}{{1, 0x0f0f}, {2, 0xffff}, {3, 0xf0f0}, {5, 8}, {6, 0xfff8}, {7, 0xfff0}} {
		s := scened(64, csrOf(e.f, 0x340))
		s.h.X[8], s.h.Csr.Mscratch = 0x0f0f, 0xfff0
		if e.f == 7 {
			s.h.Csr.Mscratch = 0xfff8
		}
		was := s.h.Csr.Mscratch
		s.becomes(t, fmt.Sprintf("F %d", e.f), func(s *scene) { s.h.X[7], s.h.Csr.Mscratch = was, e.left })
	}
}

// P14.7: of Rs1 0 the register becomes 0 by F 1 and 5; by the others it is not written at all, also where it is only read.
func TestCsrNoSource(t *testing.T) {
	for _, f := range []int{1, 2, 3, 5, 6, 7} {
		ins := csrOf(f, 0x340)
		ins.Rs1 = 0
		s := scened(64, ins)
		s.h.Csr.Mscratch = 0xabc
		s.becomes(t, fmt.Sprintf("F %d", f), func(s *scene) {
			s.h.X[7] = 0xabc
			if f%4 == 1 {
				s.h.Csr.Mscratch = 0
			}
		})
		for _, num := range []int{0xc00, 0xf11, 0xf14} {
			ins.Imm = uint64(num)
			s = scened(64, ins)
			s.h.Csr.Cycle = 5
			if f%4 == 1 {
				s.traps(t, fmt.Sprintf("F %d of what is only read", f), api.CauseIllegal, uint64(wordOf(ins)))
				continue
			}
			s.becomes(t, fmt.Sprintf("F %d of what is only read", f), func(s *scene) {
				s.h.X[7] = 0
				if num == 0xc00 {
					s.h.X[7] = 6
				}
			})
		}
	}
	// It is Rs1 that counts, not what it holds.
	s := scened(64, csrOf(2, 0x300))
	s.h.X[8] = 0
	s.becomes(t, "x8 is 0, but not Rs1", func(s *scene) { s.h.X[7] = 10 << 32 })
	s.put(base, 4, uint64(wordOf(csrOf(2, 0xc00))))
	s.traps(t, "x8 is 0, but not Rs1, of what is only read", api.CauseIllegal, uint64(wordOf(csrOf(2, 0xc00))))
}

// P14.7: one register for what is read and what is written; and none that is told what was there.
func TestCsrOneRegister(t *testing.T) {
	for _, e := range []struct {
		f    int
		left uint64
	}{{1, 0x0ff0}, {2, 0xfff0}, {3, 0xf000}, {5, 7}, {6, 0xff07}, {7, 0xff00}} {
		s := scened(64, api.Ins{Class: api.Csr, F: e.f, Rd: 7, Rs1: 7, Imm: 0x140})
		s.h.X[7], s.h.Csr.Sscratch = 0x0ff0, 0xff00
		s.becomes(t, fmt.Sprintf("F %d", e.f), func(s *scene) { s.h.X[7], s.h.Csr.Sscratch = 0xff00, e.left })
		s.put(base, 4, uint64(wordOf(api.Ins{Class: api.Csr, F: e.f, Rs1: 7, Imm: 0x140})))
		s.becomes(t, fmt.Sprintf("F %d into register 0", e.f), func(s *scene) { s.h.Csr.Sscratch = e.left })
	}
}

// P14.7: numbers that are not there, that the privilege has not, or that are only read: trap 2 with the word, and nothing is another.
func TestCsrRefused(t *testing.T) {
	for _, e := range []struct {
		num   int
		privs []int // those who are refused
	}{
		{0x340, []int{0, 1}}, {0x300, []int{0, 1}}, {0x140, []int{0}}, {0x100, []int{0}}, {0x180, []int{0}}, {0xb00, []int{0, 1}},
		{0xc00, privs}, {0xf11, privs}, {0xf14, privs}, {0, privs}, {0x345, privs}, {0xfff, privs}, {0x7c0, privs}, {0x3a0, privs}, {0xc01, privs}, {0x200, privs},
	} {
		for _, f := range []int{1, 2, 3, 5, 6, 7} {
			for _, priv := range e.privs {
				s := scened(64, csrOf(f, e.num))
				s.h.Priv = priv
				s.traps(t, fmt.Sprintf("F %d of %#x by %d", f, e.num, priv), api.CauseIllegal, uint64(wordOf(csrOf(f, e.num))))
			}
		}
	}
}

// P14.7: numbers that the privilege has: what is read is as Read answers it, what is written as Write keeps it.
func TestCsrKept(t *testing.T) {
	s := scened(64, csrOf(1, 0x100))
	s.h.Priv, s.h.Csr.Status, s.h.X[8] = api.Supervisor, mpp|tw|spp, ones
	s.becomes(t, "Status of the Supervisor", func(s *scene) {
		s.h.X[7], s.h.Csr.Status = spp|2<<32, mpp|tw|0xc0122
	})
	s = scened(64, csrOf(1, 0xc00))
	s.h.Priv = api.User
	s.put(base, 4, uint64(wordOf(api.Ins{Class: api.Csr, F: 2, Rd: 7, Imm: 0xc00})))
	s.becomes(t, "Cycle of a User", func(s *scene) { s.h.X[7] = 1 })
	s = scened(64, csrOf(1, 0x180))
	s.h.Priv, s.h.X[8] = api.Supervisor, 8<<60|0x80001
	s.becomes(t, "Satp", func(s *scene) { s.h.X[7], s.h.Csr.Satp = 0, 8<<60|0x80001 })
	s.h.X[8] = 9 << 60
	s.becomes(t, "Satp that is not kept", func(s *scene) { s.h.X[7] = 0 })
	s.h.Csr.Status = tvm
	s.traps(t, "Satp that is kept from the Supervisor", api.CauseIllegal, uint64(wordOf(csrOf(1, 0x180))))
	s.h.Priv, s.h.X[8] = api.Machine, 5
	s.becomes(t, "Satp of the Machine", func(s *scene) { s.h.X[7], s.h.Csr.Satp = 0, 5 })
	s = scened(64, csrOf(1, 0x341))
	s.h.X[8] = 0x1235
	s.becomes(t, "Mepc", func(s *scene) { s.h.X[7], s.h.Csr.Mepc = 0, 0x1234 })
	s = scened(64, csrOf(2, 0x344))
	s.h.X[8], s.h.Csr.Mip = ones, 1<<1
	s.becomes(t, "Mip", func(s *scene) { s.h.X[7], s.h.Csr.Mip = 1<<1, 0x222 })
}

// P14.7: what is written counts from the next instruction on: pages that are turned on are there then.
func TestCsrCounts(t *testing.T) {
	s := paged(api.Supervisor, csrOf(1, 0x180))
	s.h.Pc, s.h.Csr.Satp, s.h.X[8] = base, 0, 8<<60|topTable/pageOf
	s = s.step()
	s.traps(t, "what is there without pages", api.CauseFetchPage, base+4)
}

// systemOf answers a System of F.
func systemOf(f int) api.Ins {
	i := api.Ins{Class: api.System, F: f}
	if f == api.Sfence {
		i.Rs1, i.Rs2 = 3, 4
	}
	return i
}

// P14.7: Ecall: trap 8 and the privilege, tval 0; Ebreak: trap 3, tval Pc; whatever Status says.
func TestCalls(t *testing.T) {
	for priv, cause := range map[int]int{api.User: 8, api.Supervisor: 9, api.Machine: 11} {
		for _, status := range []uint64{0, tvm | tw | tsr, mie | sie} {
			s := scened(64, bump(), systemOf(api.Ecall), systemOf(api.Ebreak))
			s.h.Priv, s.h.Csr.Status, s.h.Csr.Mtval = priv, status, 77
			s.h.Pc = base + 4
			s.traps(t, fmt.Sprintf("a call by %d", priv), cause, 0)
			s.h.Pc = base + 8
			s.traps(t, fmt.Sprintf("a break by %d", priv), 3, base+8)
		}
	}
	s := scened(64, systemOf(api.Ecall))
	s.h.Priv, s.h.Csr.Medeleg, s.h.Csr.Stval = api.User, 1<<8, 77
	s.becomes(t, "a call that is the Supervisor's", func(s *scene) {
		s.h.Pc, s.h.Priv = supervisorTraps, 1
		s.h.Csr.Scause, s.h.Csr.Sepc, s.h.Csr.Stval = 8, base, 0
	})
}

// P14.7: Sret and Mret, Wfi and Sfence of each privilege, with bits 20, 21 and 22 of Status up and down: what is refused is trap 2 with the word.
func TestSystem(t *testing.T) {
	for status := range uint64(8) {
		up := status << 20
		for _, priv := range privs {
			for _, e := range []struct {
				name string
				f    int
				may  bool
			}{
				{"sret", api.Sret, priv == 3 || priv == 1 && up&tsr == 0},
				{"mret", api.Mret, priv == 3},
				{"wfi", api.Wfi, priv == 3 || priv == 1 && up&tw == 0},
				{"sfence", api.Sfence, priv == 3 || priv == 1 && up&tvm == 0},
			} {
				s := scened(64, systemOf(e.f))
				s.h.Priv, s.h.Csr.Status = priv, up|spie|mpie|spp|mprv
				s.h.Csr.Sepc, s.h.Csr.Mepc = 0x5554, 0x3332
				name := fmt.Sprintf("%s by %d, %#x", e.name, priv, up)
				if !e.may {
					s.traps(t, name, api.CauseIllegal, uint64(wordOf(systemOf(e.f))))
					continue
				}
				s.becomes(t, name, func(s *scene) {
					switch e.f {
					case api.Sret:
						s.h.Pc, s.h.Priv, s.h.Csr.Status = 0x5554, 1, up|sie|spie|mpie
					case api.Mret:
						s.h.Pc, s.h.Priv, s.h.Csr.Status = 0x3332, 0, up|spie|mie|mpie|spp
					case api.Wfi:
						s.h.Wait = true
					}
				})
			}
		}
	}
}

// P14.7: the returns lead to each privilege; the next instruction is fetched with it.
func TestReturns(t *testing.T) {
	for _, to := range privs {
		s := scened(64, systemOf(api.Mret))
		s.h.Csr.Status, s.h.Csr.Mepc = uint64(to)<<11|mprv, base+8
		s.put(base+8, 4, uint64(wordOf(systemOf(api.Ecall))))
		s.becomes(t, "mret", func(s *scene) {
			s.h.Pc, s.h.Priv, s.h.Csr.Status = base+8, to, mpie
			if to == api.Machine {
				s.h.Csr.Status |= mprv
			}
		})
		s.step().traps(t, "what is behind", 8+to, 0)
	}
	for to := range 2 {
		s := scened(64, systemOf(api.Sret))
		s.h.Csr.Status, s.h.Csr.Sepc, s.h.Priv = uint64(to)<<8|mie, base+8, api.Supervisor
		s.becomes(t, "sret", func(s *scene) { s.h.Pc, s.h.Priv, s.h.Csr.Status = base+8, to, mie|spie })
	}
}

// P14.7: Wfi waits from the next step on; an interrupt's return leads behind it.
func TestWfi(t *testing.T) {
	s := scened(64, systemOf(api.Wfi), bump())
	s.h.Csr.Mie, s.h.Csr.Status, s.h.Csr.Mtvec = 1<<3, mie, base+32
	s.put(base+32, 4, uint64(wordOf(systemOf(api.Mret))))
	s = s.step()
	for range 3 {
		s.becomes(t, "it waits", func(s *scene) { s.h.Pc -= 4 })
		s = s.step()
	}
	s.b.Clint.Soft = true
	s.becomes(t, "the interrupt, and its return", func(s *scene) {
		s.h.Wait = false
		s.h.Pc -= 4
		s.h.Csr.Mip, s.h.Csr.Mcause, s.h.Csr.Mepc, s.h.Csr.Status = 1<<3, 1<<63|3, base+4, mie|mpie
	})
}

// P14.7: Sfence of all registers, of each pair of some, does nothing but go on.
func TestSfence(t *testing.T) {
	for _, rs1 := range []int{0, 1, 31} {
		for _, rs2 := range []int{0, 2, 31} {
			s := scened(64, api.Ins{Class: api.System, F: api.Sfence, Rs1: rs1, Rs2: rs2})
			s.becomes(t, "sfence", nothing)
			s.h.Priv = api.User
			s.traps(t, "sfence of a User", api.CauseIllegal, s.get(base, 4))
		}
	}
}

// P14.7: a refusal, told register by register.
func TestRefusalWorked(t *testing.T) {
	s := scened(64, systemOf(api.Mret))
	s.h.Priv, s.h.Csr.Status, s.h.Csr.Medeleg = api.Supervisor, sie, 1<<2
	s.becomes(t, "mret of the Supervisor", func(s *scene) {
		s.h.Pc = supervisorTraps
		s.h.Csr.Scause, s.h.Csr.Sepc, s.h.Csr.Stval, s.h.Csr.Status = 2, base, 0x30200073, spie|spp
	})
}
