package hart

import (
	"fmt"
	"testing"

	"drawbridge/api"
)

// loadOf answers a load of x7 from imm(x8); storeOf a store of x9 to imm(x8).
func loadOf(f int, imm uint64) api.Ins {
	return api.Ins{Class: api.Load, F: f, Rd: 7, Rs1: 8, Imm: imm}
}

func storeOf(f int, imm uint64) api.Ins {
	return api.Ins{Class: api.Store, F: f, Rs1: 8, Rs2: 9, Imm: imm}
}

// P14.5: loads of each size and sign, told by hand, at multiples; the place is a sum, modulo 2^64.
func TestLoad(t *testing.T) {
	for _, e := range []struct {
		f    int
		at   uint64
		want uint64
	}{
		{0, 32, 0xffffffffffffff88}, {0, 35, 0x55}, {0, 39, 0x11}, {0, 34, 0x66}, {0, 33, 0x77},
		{1, 32, 0x7788}, {1, 40, 0xffffffffffff8f01}, {1, 38, 0x1122},
		{2, 32, 0x55667788}, {2, 36, 0x11223344}, {2, 40, 0xffffffffef008f01},
		{3, 32, 0x1122334455667788}, {3, 40, 0x89abcdefef008f01},
		{4, 32, 0x88}, {4, 43, 0xef},
		{5, 40, 0x8f01}, {5, 42, 0xef00},
		{6, 40, 0xef008f01}, {6, 44, 0x89abcdef},
	} {
		for _, imm := range []uint64{0, 2047, neg(2048), 4, neg(1)} {
			s := scened(64, loadOf(e.f, imm))
			s.put(base+32, 8, 0x1122334455667788)
			s.put(base+40, 8, 0x89abcdefef008f01)
			s.h.X[8] = base + e.at - imm
			s.becomes(t, fmt.Sprintf("%+v by %d", e, int64(imm)), func(s *scene) { s.h.X[7] = e.want })
		}
	}
}

// P14.5: stores of each size: the lowest bytes, and no others.
func TestStore(t *testing.T) {
	for f, size := range []int{1, 2, 4, 8} {
		for at := uint64(16); at+uint64(size) <= 64; at += uint64(size) {
			for _, imm := range []uint64{0, 2047, neg(2048), 4, neg(1)} {
				s := scened(64, storeOf(f, imm))
				s.h.X[8], s.h.X[9] = base+at-imm, 0xfedcba9876543210
				s.put(base+32, 8, 0x1122334455667788)
				s.becomes(t, fmt.Sprintf("%d at %d by %d", size, at, int64(imm)), func(s *scene) {
					s.put(base+at, size, 0xfedcba9876543210)
				})
			}
		}
	}
}

// P14.5: an instruction may load into the register that says where, and store what says where.
func TestOneRegister(t *testing.T) {
	s := scened(64, api.Ins{Class: api.Load, F: 3, Rd: 8, Rs1: 8})
	s.h.X[8] = base + 32
	s.put(base+32, 8, 77)
	s.becomes(t, "ld x8, 0(x8)", func(s *scene) { s.h.X[8] = 77 })
	s = scened(64, api.Ins{Class: api.Store, F: 3, Rs1: 8, Rs2: 8})
	s.h.X[8] = base + 32
	s.becomes(t, "sd x8, 0(x8)", func(s *scene) { s.put(base+32, 8, base+32) })
	s = scened(64, api.Ins{Class: api.Store, F: 3, Rs1: 8})
	s.h.X[8] = base + 32
	s.put(base+32, 8, ones)
	s.becomes(t, "sd x0, 0(x8)", func(s *scene) { s.put(base+32, 8, 0) })
	s = scened(4096, api.Ins{Class: api.Load, F: 3, Rd: 7, Imm: 8})
	s.traps(t, "ld x7, 8(x0)", api.CauseLoadAccess, 8)
}

// P14.5: a program may change itself: what is stored is fetched then.
func TestStoredIsFetched(t *testing.T) {
	s := scened(64, storeOf(2, 0))
	s.h.X[8], s.h.X[9] = base+4, longAdd
	s = s.step()
	s.becomes(t, "what was stored", func(s *scene) { s.h.X[8]++ })
}

// P14.5: at places that are no multiple: trap 4 or 6 with the address, wherever it is, ahead of any other reason; all else is as it was.
func TestAlign(t *testing.T) {
	for f, size := range []uint64{1, 2, 4, 8} {
		for _, from := range []uint64{base + 32, 0x10000000, 0x200bff8, 0, ones - 15, base + 64 - 8} {
			for off := range uint64(8) {
				at := from + off
				if at%size == 0 {
					continue
				}
				for _, sign := range []int{0, 4} {
					if f+sign == 7 {
						continue
					}
					s := scened(64, loadOf(f+sign, 0))
					s.h.X[8] = at
					s.traps(t, fmt.Sprintf("load %d at %#x", f+sign, at), 4, at)
				}
				s := scened(64, storeOf(f, 16))
				s.h.X[8] = at - 16
				s.traps(t, fmt.Sprintf("store %d at %#x", f, at), 6, at)
			}
		}
	}
	s := paged(api.User, loadOf(3, 1), storeOf(3, 1))
	s.h.X[8] = 0x5000
	marked := func(s *scene) { s.mark(1, pteA) }
	s.trapsWith(t, "a load without a page", 4, 0x5001, marked)
	s.h.Pc += 4
	s.trapsWith(t, "a store without a page", 6, 0x5001, marked)
}

// P14.5: where nothing is: trap 5 or 7 with the address.
func TestNowhere(t *testing.T) {
	for f, size := range []uint64{1, 2, 4, 8} {
		for _, at := range []uint64{0, 0x1000, base - 8, base + 64, base + 72, 0x2000008, 0xc000000, 0xc400000, 0x10000008, 0x10001040, 0x10001100, 1<<32 + base, ones - 7} {
			s := scened(64, loadOf(f, 0))
			s.h.X[8] = at
			s.traps(t, fmt.Sprintf("load of %d at %#x", size, at), 5, at)
			s = scened(64, storeOf(f, 0))
			s.h.X[8] = at
			s.traps(t, fmt.Sprintf("store of %d at %#x", size, at), 7, at)
		}
	}
	// Of eight bytes just the first four are memory.
	s := scened(60, loadOf(3, 0), storeOf(3, 0))
	s.h.X[8] = base + 56
	s.traps(t, "a load over the end", 5, base+56)
	s.h.Pc += 4
	s.traps(t, "a store over the end", 7, base+56)
}

// P14.5: loads from each device, with what that takes from it; of sizes that it has not, a trap that leaves it as it is.
func TestLoadDevice(t *testing.T) {
	for _, e := range []struct {
		at   uint64
		f    int
		want uint64
		left func(s *scene)
	}{
		{0x10000000, 0, 'h', func(s *scene) { s.b.Uart.In = []byte{0xee} }},
		{0x10000000, 4, 'h', func(s *scene) { s.b.Uart.In = []byte{0xee} }},
		{0x10000005, 0, 0x61, nothing},
		{0x2000000, 2, 1, nothing},
		{0x2004000, 3, 0xfedcba9876543210, nothing},
		{0x2004000, 2, 0x76543210, nothing},
		{0x2004004, 2, 0xfffffffffedcba98, nothing},
		{0x2004004, 6, 0xfedcba98, nothing},
		{0xc001000, 2, 2, nothing},
		{0xc200004, 2, 1, func(s *scene) { s.b.Plic.Pending, s.b.Plic.Claimed = 0, 2 }},
		{0x10001034, 6, 0x12005452, nothing},
		{0x1000100c, 2, 0xffffffffffff0000, nothing},
	} {
		s := scened(64, loadOf(e.f, 0))
		s.b.Uart.In = []byte{'h', 0xee}
		s.b.Clint.Soft, s.b.Clint.Cmp = true, 0xfedcba9876543210
		s.b.Plic.Prio, s.b.Plic.Enable, s.b.Plic.Pending = []int{0, 1, 0}, []int{2, 0}, 2
		s.b.Nic.TxBase = 0xffff0000
		s.h.X[8] = e.at
		heard := func(s *scene) { s.h.Csr.Mip = 1<<3 | 1<<11 }
		s.becomes(t, fmt.Sprintf("%+x", e.at), func(s *scene) { s.h.X[7] = e.want; heard(s); e.left(s) })
		if e.at%8 == 0 && e.f != 3 {
			s.put(base, 4, uint64(wordOf(loadOf(1, 0))))
			s.trapsWith(t, fmt.Sprintf("%+x of two bytes", e.at), 5, e.at, heard)
		}
	}
}

// P14.5: a byte of a device has its sign put above it, unless F says that it has none.
func TestLoadDeviceSign(t *testing.T) {
	for f, want := range map[int]uint64{0: 0xffffffffffffffee, 4: 0xee} {
		s := scened(64, loadOf(f, 0))
		s.b.Uart.In, s.h.X[8] = []byte{0xee}, 0x10000000
		s.becomes(t, "a byte", func(s *scene) { s.h.X[7], s.b.Uart.In = want, nil })
	}
}

// P14.5: stores to each device.
func TestStoreDevice(t *testing.T) {
	for _, e := range []struct {
		at   uint64
		f    int
		left func(s *scene)
	}{
		{0x10000000, 0, func(s *scene) { s.b.Uart.Out = []byte{0x41} }},
		{0x10000001, 0, func(s *scene) { s.b.Uart.Ie = 1 }},
		{0x2000000, 2, func(s *scene) { s.b.Clint.Soft = true }},
		{0x2004000, 3, func(s *scene) { s.b.Clint.Cmp = 0x8000000000000341 }},
		{0x2004000, 2, func(s *scene) { s.b.Clint.Cmp = 0xffffffff00000341 }},
		{0x200bff8, 3, func(s *scene) { s.b.Clint.Time = 0x8000000000000341 }},
		{0xc000004, 2, func(s *scene) { s.b.Plic.Prio[1] = 1 }},
		{0xc201000, 2, func(s *scene) { s.b.Plic.Threshold[1] = 1 }},
		{0x10001000, 2, func(s *scene) { s.b.Nic.Ctrl = 1 }},
		{0x1000100c, 2, func(s *scene) { s.b.Nic.TxBase = 0x341 }},
	} {
		s := scened(64, storeOf(e.f, 0))
		s.h.X[8], s.h.X[9] = e.at, 0x8000000000000341
		s.becomes(t, fmt.Sprintf("%#x", e.at), e.left)
	}
}

// pagedData answers a processor with its page 3, which leads to lastPage, and a number there.
func pagedData(priv int, bits uint64, list ...api.Ins) scene {
	s := paged(priv, list...)
	s.page(3, lastPage, bits)
	s.put(lastPage+0x18, 8, 0x1122334455667788)
	s.h.X[8] = 0x3010
	return s
}

// P14.5: with pages: where the address leads, and the marks that pages get: of a load A, of a store D besides.
func TestDataPages(t *testing.T) {
	for _, priv := range []int{api.User, api.Supervisor} {
		for f, size := range []int{1, 2, 4, 8} {
			s := pagedData(priv, pteR|pteW, loadOf(f, 8))
			s.becomes(t, "a load", func(s *scene) {
				s.h.X[7] = signOf(0x1122334455667788, uint64(size))
				s.mark(1, pteA)
				s.mark(3, pteA)
			})
			s = pagedData(priv, pteR|pteW, storeOf(f, 8))
			s.becomes(t, "a store", func(s *scene) {
				s.put(lastPage+0x18, size, s.h.X[9])
				s.mark(1, pteA)
				s.mark(3, pteA|pteD)
			})
		}
	}
}

// P14.5: pages that may not be read or written: the fault's cause, with the address; the page of the instruction has its mark.
func TestDataPageFaults(t *testing.T) {
	for _, priv := range []int{api.User, api.Supervisor} {
		marked := func(s *scene) { s.mark(1, pteA) }
		for name, e := range map[string]struct{ bits, load, store uint64 }{
			"not to be read": {pteX, 13, 15}, "not to be written": {pteR, 0, 15}, "no page": {0, 13, 15},
		} {
			s := pagedData(priv, e.bits, loadOf(3, 8))
			if e.load > 0 {
				s.trapsWith(t, "a load, "+name, int(e.load), 0x3018, marked)
			}
			s = pagedData(priv, e.bits, storeOf(3, 8))
			s.trapsWith(t, "a store, "+name, int(e.store), 0x3018, marked)
		}
		for at, causes := range map[uint64][2]int{1 << 38: {13, 15}, 1 << 63: {13, 15}, 1 << 30: {13, 15}} {
			s := pagedData(priv, pteR, loadOf(3, 0), storeOf(3, 0))
			s.h.X[8] = at
			s.trapsWith(t, "a load far off", causes[0], at, marked)
			s.h.Pc += 4
			s.trapsWith(t, "a store far off", causes[1], at, marked)
		}
	}
}

// P14.5: a page that leads to no memory: trap 5 or 7 with the address, not with the place; the page has its marks.
func TestDataPageNowhere(t *testing.T) {
	for _, priv := range []int{api.User, api.Supervisor} {
		s := pagedData(priv, pteR|pteW, loadOf(3, 8), storeOf(3, 8))
		s.page(3, base+16*pageOf, pteR|pteW)
		s.trapsWith(t, "a load", 5, 0x3018, func(s *scene) { s.mark(1, pteA); s.mark(3, pteA) })
		s.h.Pc += 4
		s.trapsWith(t, "a store", 7, 0x3018, func(s *scene) { s.mark(1, pteA); s.mark(3, pteA|pteD) })
	}
}

// P14.5: a page may lead to a device.
func TestDataPageDevice(t *testing.T) {
	for _, priv := range []int{api.User, api.Supervisor} {
		s := pagedData(priv, pteR|pteW, loadOf(4, 0), storeOf(0, 0))
		s.page(3, 0x10000000, pteR|pteW)
		s.h.X[8], s.b.Uart.In = 0x3000, []byte("hi")
		s.becomes(t, "a load", func(s *scene) { s.h.X[7], s.b.Uart.In = 'h', []byte("i"); s.mark(1, pteA); s.mark(3, pteA) })
		s.h.Pc += 4
		s.becomes(t, "a store", func(s *scene) {
			s.b.Uart.Out = []byte{byte(s.h.X[9])}
			s.mark(1, pteA)
			s.mark(3, pteA|pteD)
		})
	}
}

// P14.5: the Machine loads and stores with the privilege of Status' bits 12-11, if bit 17 is 1; nobody else does. It fetches with its own.
func TestOtherPrivilege(t *testing.T) {
	for _, e := range []struct {
		status uint64
		paged  bool
		user   bool
	}{
		{0, false, false}, {mpp, false, false}, {1 << 11, false, false}, {mprv | mpp, false, false},
		{mprv, true, true}, {mprv | 1<<11, true, false}, {mprv | 1<<11 | sum, true, false},
	} {
		for _, user := range []bool{false, true} {
			s := pagedData(api.Machine, pteR|pteW, loadOf(3, 8), storeOf(3, 8), api.Ins{Class: api.Amo, F: 2, Rd: 7, Rs1: 10}, api.Ins{Class: api.Amo, F: 1, Rd: 7, Rs1: 10, Rs2: 9})
			if user {
				s.mark(3, pteU)
			}
			s.h.Pc, s.h.Csr.Status, s.h.X[10] = base, e.status, 0x3018
			for n, causes := range [][2]int{{5, 13}, {7, 15}, {5, 13}, {7, 15}} {
				s.h.Pc = base + 4*uint64(n)
				name := fmt.Sprintf("%+v, %v, %d", e, user, n)
				switch {
				case !e.paged:
					s.traps(t, name, causes[0], 0x3018)
				case e.user != user && !(user && e.status&sum != 0):
					s.traps(t, name, causes[1], 0x3018)
				case n%2 == 0:
					s.becomes(t, name, func(s *scene) {
						s.h.X[7] = 0x1122334455667788
						s.mark(3, pteA)
						if n == 2 {
							s.h.Reserve, s.h.Held = lastPage+0x18, true
						}
					})
				default:
					s.becomes(t, name, func(s *scene) {
						s.mark(3, pteA|pteD)
						s.put(lastPage+0x18, 8, s.h.X[9])
						if n == 3 {
							s.h.X[7] = 0x1122334455667788
						}
					})
				}
			}
		}
	}
}

// P14.5: one below the Machine has its own privilege, whatever Status' bits 17 and 12-11 say.
func TestOwnPrivilege(t *testing.T) {
	for _, priv := range []int{api.User, api.Supervisor} {
		for _, status := range []uint64{mprv, mprv | 1<<11, mprv | mpp} {
			s := pagedData(priv, pteR|pteW, loadOf(3, 8))
			s.h.Csr.Status = status
			s.becomes(t, "a load", func(s *scene) { s.h.X[7] = 0x1122334455667788; s.mark(1, pteA); s.mark(3, pteA) })
			s.put(lowTable+8*3, 8, s.get(lowTable+8*3, 8)^pteU)
			s.trapsWith(t, "another's page", 13, 0x3018, func(s *scene) { s.mark(1, pteA) })
		}
	}
}

// P14.5: a trap of a load or a store, told register by register.
func TestDataTrapWorked(t *testing.T) {
	s := scened(64, loadOf(2, 3))
	s.h.X[8], s.h.Priv, s.h.Csr.Status, s.h.Csr.Medeleg = base+32, api.User, sie|spp, 1<<4
	s.becomes(t, "to the Supervisor", func(s *scene) {
		s.h.Pc, s.h.Priv = supervisorTraps, 1
		s.h.Csr.Scause, s.h.Csr.Sepc, s.h.Csr.Stval, s.h.Csr.Status = 4, base, base+35, spie
	})
	s.h.Csr.Medeleg = 0xb3ff - 1<<4
	s.becomes(t, "to the Machine", func(s *scene) {
		s.h.Pc, s.h.Priv = machineTraps, 3
		s.h.Csr.Mcause, s.h.Csr.Mepc, s.h.Csr.Mtval = 4, base, base+35
	})
}
