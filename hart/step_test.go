package hart

import (
	"fmt"
	"testing"

	"drawbridge/api"
)

// lined answers a scene whose board has these lines up: bits 3, 7, 9, 11.
func lined(up uint64, list ...api.Ins) scene {
	s := scened(128, list...)
	s.b.Clint.Soft = up&(1<<3) != 0
	if up&(1<<7) != 0 {
		s.b.Clint.Time = ones
	}
	s.b.Plic.Prio = []int{0, 1, 1}
	if up&(1<<9) != 0 {
		s.b.Plic.Pending, s.b.Plic.Enable[1] = 2, 2
	}
	if up&(1<<11) != 0 {
		s.b.Plic.Pending, s.b.Plic.Enable[0] = s.b.Plic.Pending|4, 4
	}
	return s
}

// bump is an instruction that is seen.
func bump() api.Ins { return api.Ins{Class: api.AluImm, Rd: 5, Rs1: 5, Imm: 1} }

// bumped is what bump does.
func bumped(s *scene) { s.h.X[5]++ }

// P14.2: Cycle is one more, modulo 2^64, whether the processor waits, traps or goes on.
func TestCycle(t *testing.T) {
	for _, was := range []uint64{0, 1, 41, 1<<32 - 1, 1 << 32, 1<<63 - 1, ones - 1, ones} {
		for _, waits := range []bool{false, true} {
			for _, list := range [][]api.Ins{{bump()}, {{Class: api.System, F: api.Ecall}}} {
				s := scened(64, list...)
				s.h.Csr.Cycle, s.h.Wait = was, waits
				if left := s.step(); left.h.Csr.Cycle != was+1 {
					t.Errorf("Cycle %#x is %#x then", was, left.h.Csr.Cycle)
				}
			}
		}
	}
	s := scened(64)
	s.h.Csr.Cycle = ones
	if left := s.step(); left.h.Csr.Cycle != 0 {
		t.Errorf("Cycle is %#x behind its last number", left.h.Csr.Cycle)
	}
}

// P14.2: the bits 3, 7, 9 and 11 of Mip are those lines that are up, the others as they were.
func TestMip(t *testing.T) {
	for lines := range uint64(16) {
		up := lines&1<<3 | lines>>1&1<<7 | lines>>2&1<<9 | lines>>3&1<<11
		for _, was := range []uint64{0, 0xaaa, 1 << 1, 1 << 5, 1<<3 | 1<<5, 1<<7 | 1<<1, 1 << 9, 1 << 11, 1<<1 | 1<<5} {
			for _, waits := range []bool{false, true} {
				s := lined(up, bump())
				s.h.Csr.Mip, s.h.Wait = was, waits
				s.becomes(t, fmt.Sprintf("lines %#x, Mip %#x", up, was), func(s *scene) {
					s.h.Csr.Mip = up | was&(1<<1|1<<5)
					if waits {
						s.h.Pc -= 4
						return
					}
					bumped(s)
				})
			}
		}
	}
}

// P14.2: the board is that behind Lines: what a device asks for is pending, also while the processor waits.
func TestBoardBehindLines(t *testing.T) {
	for _, waits := range []bool{false, true} {
		s := lined(0, bump())
		s.h.Wait = waits
		s.b.Uart.In, s.b.Uart.Ie = []byte("x"), 1
		s.b.Nic.Cause, s.b.Nic.Mask = 1, 1
		s.b.Plic.Claimed = 4
		s.becomes(t, "lines", func(s *scene) {
			s.b.Plic.Pending = 2
			if waits {
				s.h.Pc -= 4
				return
			}
			bumped(s)
		})
	}
}

// P14.2: an instruction sees what Cycle and Mip are then; what it writes itself stays.
func TestSeesCycleAndMip(t *testing.T) {
	s := lined(1<<7, api.Ins{Class: api.Csr, F: 1, Rd: 4, Rs1: 3, Imm: 0xb00})
	s.h.Csr.Cycle = 99
	s.becomes(t, "Cycle", func(s *scene) { s.h.X[4], s.h.Csr.Cycle, s.h.Csr.Mip = 100, s.h.X[3], 1<<7 })
	s = lined(1<<7, api.Ins{Class: api.Csr, F: 2, Rd: 4, Imm: 0x344})
	s.becomes(t, "Mip", func(s *scene) { s.h.X[4], s.h.Csr.Mip = 1<<7, 1<<7 })
}

// interrupted answers a scene that the interrupt n comes to, with bump where it leads.
func interrupted(n int, waits bool) scene {
	up := uint64(0)
	if n != 1 && n != 5 {
		up = 1 << n
	}
	s := lined(up)
	s.put(base+64, 4, uint64(wordOf(bump())))
	s.h.Csr.Mip, s.h.Csr.Mie = 1<<n, 1<<n
	s.h.Csr.Mtval, s.h.Csr.Stval = 77, 77
	s.h.Pc, s.h.Wait = base+12, waits
	return s
}

// P14.2: each interrupt is entered, the Machine's way, and one instruction is done where it leads; the processor does not wait any more.
func TestInterruptMachine(t *testing.T) {
	for _, n := range []int{1, 3, 5, 7, 9, 11} {
		for _, waits := range []bool{false, true} {
			for _, priv := range privs {
				for _, vec := range []uint64{base + 64, base + 64 - 4*uint64(n) + 1} {
					s := interrupted(n, waits)
					s.h.Csr.Mtvec, s.h.Csr.Status, s.h.Priv = vec, mie, priv
					s.becomes(t, fmt.Sprintf("interrupt %d", n), func(s *scene) {
						s.h.Pc, s.h.Priv, s.h.Wait = base+68, 3, false
						s.h.Csr.Mcause, s.h.Csr.Mepc, s.h.Csr.Mtval = 1<<63|uint64(n), base+12, 0
						s.h.Csr.Status = mpie | uint64(priv)<<11
						bumped(s)
					})
				}
			}
		}
	}
}

// P14.2: an interrupt that is the Supervisor's is entered its way.
func TestInterruptSupervisor(t *testing.T) {
	for _, n := range []int{1, 5, 9} {
		for _, waits := range []bool{false, true} {
			for _, priv := range []int{api.User, api.Supervisor} {
				s := interrupted(n, waits)
				s.h.Csr.Stvec, s.h.Csr.Status, s.h.Csr.Mideleg, s.h.Priv = base+64, sie, 1<<n, priv
				s.becomes(t, fmt.Sprintf("interrupt %d", n), func(s *scene) {
					s.h.Pc, s.h.Priv, s.h.Wait = base+68, 1, false
					s.h.Csr.Scause, s.h.Csr.Sepc, s.h.Csr.Stval = 1<<63|uint64(n), base+12, 0
					s.h.Csr.Status = spie | uint64(priv)<<8
					bumped(s)
				})
			}
		}
	}
}

// P14.2: of several interrupts the first one in layer 6's order is entered, and one alone.
func TestInterruptOrder(t *testing.T) {
	s := lined(1<<3 | 1<<7 | 1<<9 | 1<<11)
	s.put(base+64, 4, uint64(wordOf(bump())))
	s.h.Csr.Mtvec, s.h.Csr.Status, s.h.Csr.Mie, s.h.Csr.Mip = base+64, mie, 0x2aa, 1<<1|1<<5
	s.becomes(t, "all but 11", func(s *scene) {
		s.h.Csr.Mip, s.h.Csr.Mcause, s.h.Csr.Mepc = 0xaaa, 1<<63|3, base
		s.h.Csr.Status, s.h.Pc = mpie|mpp, base+68
		bumped(s)
	})
}

// P14.2: the instruction behind an interrupt may trap itself, from where the interrupt led, with the privilege that it led to.
func TestTrapBehindInterrupt(t *testing.T) {
	s := interrupted(7, true)
	s.h.Csr.Mtvec, s.h.Priv = base+64, api.User
	s.put(base+64, 4, uint64(wordOf(api.Ins{Class: api.System, F: api.Ecall})))
	s.becomes(t, "a call behind the interrupt", func(s *scene) {
		s.h.Wait, s.h.Priv, s.h.Pc = false, 3, base+64
		s.h.Csr.Mcause, s.h.Csr.Mepc, s.h.Csr.Mtval, s.h.Csr.Status = 11, base+64, 0, mpp
	})
}

// P14.2: a processor that waits does no more than wait, while Mip and Mie have no bit both.
func TestWaits(t *testing.T) {
	for _, priv := range privs {
		for _, e := range []struct{ up, mip, mie uint64 }{
			{0, 0, 0}, {0, 0, 0xaaa}, {0xa88, 1<<1 | 1<<5, 0}, {1 << 7, 0, 0xaaa - 1<<7}, {0, 1 << 7, 1 << 7}, {0, 1 << 1, 1 << 5}, {1 << 9, 1 << 5, 1 << 1},
		} {
			s := lined(e.up, bump())
			s.h.Wait, s.h.Priv, s.h.Csr.Mip, s.h.Csr.Mie, s.h.Csr.Status = true, priv, e.mip, e.mie, mie|sie
			s.becomes(t, fmt.Sprintf("%v", e), func(s *scene) {
				s.h.Pc -= 4
				s.h.Csr.Mip = e.up | e.mip&(1<<1|1<<5)
			})
		}
	}
}

// P14.2: a processor that waits goes on, when Mip and Mie have a bit both that does not come to it as an interrupt.
func TestWaitEnds(t *testing.T) {
	for _, n := range []int{1, 3, 5, 7, 9, 11} {
		s := interrupted(n, true)
		s.put(base+12, 4, uint64(wordOf(bump())))
		s.becomes(t, fmt.Sprintf("bit %d", n), func(s *scene) {
			s.h.Wait = false
			bumped(s)
		})
		s.put(base+12, 4, uint64(wordOf(api.Ins{Class: api.System, F: api.Wfi})))
		s.becomes(t, fmt.Sprintf("bit %d, and it waits again", n), nothing)
		s.put(base+12, 4, 0)
		s.trapsWith(t, fmt.Sprintf("bit %d, and a trap", n), api.CauseIllegal, 0, func(s *scene) { s.h.Wait = false })
	}
	s := interrupted(9, true)
	s.put(base+12, 4, uint64(wordOf(bump())))
	s.h.Priv, s.h.Csr.Mideleg = api.Supervisor, 1<<9
	s.becomes(t, "the Supervisor's, who lets none in", func(s *scene) {
		s.h.Wait = false
		bumped(s)
	})
}

// P14.2: an interrupt that is not let in is none, while the processor does not wait.
func TestInterruptKeptOut(t *testing.T) {
	for _, n := range []int{1, 3, 5, 7, 9, 11} {
		s := interrupted(n, false)
		s.put(base+12, 4, uint64(wordOf(bump())))
		s.becomes(t, fmt.Sprintf("interrupt %d", n), bumped)
	}
}
