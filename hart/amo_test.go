package hart

import (
	"fmt"
	"testing"

	"drawbridge/api"
)

// F of what reserves a place, and of what stores to a reserved one.
const (
	lr = 2
	sc = 3
)

// amoOf answers what is done at x8 with x9, and answers into x7.
func amoOf(f int, word bool) api.Ins {
	i := api.Ins{Class: api.Amo, F: f, Word: word, Rd: 7, Rs1: 8, Rs2: 9}
	if f == lr {
		i.Rs2 = 0
	}
	return i
}

// amoFs are all that there are.
var amoFs = []int{0, 1, lr, sc, 4, 8, 12, 16, 20, 24, 28}

// P14.6: every row of layer 4's Amo, of words and of 8 bytes: d is the number, with its sign, memory what becomes of it, told by hand. What stands beside it stays.
func TestAmo(t *testing.T) {
	for _, e := range []struct {
		name         string
		f            int
		word         bool
		old, b, left uint64
	}{
		{"add", 0, false, 0x1122334455667788, 0x8000000000000001, 0x9122334455667789},
		{"swap", 1, false, 0x8877665544332211, 5, 5},
		{"xor", 4, false, 0xff00ff00ff00ff00, 0x0ff00ff00ff00ff0, 0xf0f0f0f0f0f0f0f0},
		{"or", 8, false, 0xff00ff00ff00ff00, 0x0ff00ff00ff00ff0, 0xfff0fff0fff0fff0},
		{"and", 12, false, 0xff00ff00ff00ff00, 0x0ff00ff00ff00ff0, 0x0f000f000f000f00},
		{"min", 16, false, 5, ones, ones},
		{"max", 20, false, 5, ones, 5},
		{"minu", 24, false, 5, ones, 5},
		{"maxu", 28, false, 5, ones, ones},
		{"add word", 0, true, 0x80000000, 0x1_80000001, 1},
		{"swap word", 1, true, 0x7fffffff, 0xabcdef01_80000005, 0x80000005},
		{"xor word", 4, true, 0xff00ff00, ones, 0x00ff00ff},
		{"or word", 8, true, 0xff00ff00, 0xff_00000001, 0xff00ff01},
		{"and word", 12, true, 0xff00ff00, 0xff_80000100, 0x80000100},
		{"min word", 16, true, 5, 0xffffffff, 0xffffffff},
		{"max word", 20, true, 5, 0xffffffff, 5},
		{"minu word", 24, true, 0xfffffffe, ones, 0xfffffffe},
		{"maxu word", 28, true, 0xfffffffe, ones, 0xffffffff},
	} {
		size, answer := 8, e.old
		if e.word {
			size, answer = 4, uint64(int32(e.old))
		}
		for at := uint64(16); at+uint64(size) <= 64; at += uint64(size) {
			s := scened(64, amoOf(e.f, e.word))
			for i := range uint64(48) {
				s.put(base+16+i, 1, 0xa0+i)
			}
			s.h.X[8], s.h.X[9], s.h.Held, s.h.Reserve = base+at, e.b, true, base+at
			s.put(base+at, size, e.old)
			s.becomes(t, e.name, func(s *scene) {
				s.h.X[7] = answer
				s.put(base+at, size, e.left)
			})
		}
	}
}

// P14.6: registers that are one: what is read is read ahead of what is answered.
func TestAmoOneRegister(t *testing.T) {
	for _, e := range []struct {
		name         string
		rd, rs1, rs2 int
		left         uint64
	}{
		{"Rd and Rs1", 8, 8, 9, 12}, {"Rd and Rs2", 9, 8, 9, 12}, {"Rs1 and Rs2", 7, 8, 8, base + 40}, {"all", 8, 8, 8, base + 40}, {"Rs2 is 0", 7, 8, 0, 8},
	} {
		s := scened(64, api.Ins{Class: api.Amo, Rd: e.rd, Rs1: e.rs1, Rs2: e.rs2})
		s.h.X[8], s.h.X[9] = base+32, 4
		s.put(base+32, 8, 8)
		s.becomes(t, e.name, func(s *scene) {
			s.h.X[e.rd] = 8
			s.put(base+32, 8, e.left)
		})
	}
	s := scened(64, api.Ins{Class: api.Amo, F: sc, Rd: 9, Rs1: 8, Rs2: 9})
	s.h.X[8], s.h.X[9], s.h.Held, s.h.Reserve = base+32, 4, true, base+32
	s.becomes(t, "F 3, Rd and Rs2", func(s *scene) { s.h.X[9], s.h.Held = 0, false; s.put(base+32, 8, 4) })
	s = scened(64, api.Ins{Class: api.Amo, F: lr, Rd: 8, Rs1: 8})
	s.h.X[8] = base + 32
	s.put(base+32, 8, 6)
	s.becomes(t, "F 2, Rd and Rs1", func(s *scene) { s.h.X[8], s.h.Held, s.h.Reserve = 6, true, base+32 })
}

// P14.6: F 2: the number with its sign; its place is reserved and held, whatever was ahead.
func TestReserve(t *testing.T) {
	for _, held := range []bool{false, true} {
		for _, e := range []struct {
			word bool
			at   uint64
			want uint64
		}{{false, 32, 0x89abcdef81234567}, {true, 32, 0xffffffff81234567}, {true, 36, 0xffffffff89abcdef}, {true, 40, 0x12345678}, {true, 60, 0}, {false, 56, 0}} {
			s := scened(64, amoOf(lr, e.word))
			s.put(base+32, 8, 0x89abcdef81234567)
			s.put(base+40, 4, 0x12345678)
			s.h.X[8], s.h.Held, s.h.Reserve = base+e.at, held, 99
			s.becomes(t, fmt.Sprintf("%+v", e), func(s *scene) {
				s.h.X[7], s.h.Held, s.h.Reserve = e.want, true, base+e.at
			})
		}
	}
}

// P14.6: F 3: it is stored, if that place is reserved and held, and d is 0; else nothing is, and d is 1. None is held then.
func TestRedeem(t *testing.T) {
	for _, e := range []struct {
		name    string
		held    bool
		reserve uint64
		done    bool
	}{
		{"held", true, base + 32, true},
		{"reserved, but not held", false, base + 32, false},
		{"another one held", true, base + 40, false},
		{"the one ahead held", true, base + 28, false},
		{"far off", true, 32, false},
		{"none", false, 0, false},
	} {
		for _, word := range []bool{false, true} {
			s := scened(64, amoOf(sc, word))
			s.h.X[8], s.h.X[9], s.h.Held, s.h.Reserve = base+32, 0x8123456789abcdef, e.held, e.reserve
			s.put(base+32, 8, 0x5555555555555555)
			s.becomes(t, e.name, func(s *scene) {
				s.h.X[7], s.h.Held = 1, false
				if !e.done {
					return
				}
				s.h.X[7] = 0
				if word {
					s.put(base+32, 4, 0x89abcdef)
					return
				}
				s.put(base+32, 8, 0x8123456789abcdef)
			})
		}
	}
}

// P14.6: F 2 and F 3 in each order, with another store between, which leaves the place reserved.
func TestReserveAndRedeem(t *testing.T) {
	store := api.Ins{Class: api.Store, F: 3, Rs1: 8, Rs2: 9}
	swap := amoOf(1, false)
	swap.Rd = 6
	for _, e := range []struct {
		name string
		list []api.Ins
		d    []uint64 // what the answers of F 3 are
	}{
		{"F 2, F 3", []api.Ins{amoOf(lr, false), amoOf(sc, false)}, []uint64{0}},
		{"F 3, F 2", []api.Ins{amoOf(sc, false), amoOf(lr, false)}, []uint64{1}},
		{"F 2, F 3, F 3", []api.Ins{amoOf(lr, false), amoOf(sc, false), amoOf(sc, false)}, []uint64{0, 1}},
		{"F 2, F 2, F 3", []api.Ins{amoOf(lr, false), amoOf(lr, true), amoOf(sc, false)}, []uint64{0}},
		{"F 2, a store, F 3", []api.Ins{amoOf(lr, false), store, amoOf(sc, false)}, []uint64{0}},
		{"F 2, a swap, F 3", []api.Ins{amoOf(lr, false), swap, amoOf(sc, false)}, []uint64{0}},
		{"F 2 of a word, F 3 of 8 bytes", []api.Ins{amoOf(lr, true), amoOf(sc, false)}, []uint64{0}},
		{"F 2 of 8 bytes, F 3 of a word", []api.Ins{amoOf(lr, false), amoOf(sc, true)}, []uint64{0}},
		{"F 3, F 3", []api.Ins{amoOf(sc, false), amoOf(sc, true)}, []uint64{1, 1}},
	} {
		s := scened(64, e.list...)
		s.h.X[8], s.h.X[9] = base+32, 0x77
		var got []uint64
		for _, ins := range e.list {
			s = s.step()
			if ins.Class == api.Amo && ins.F == sc {
				got = append(got, s.h.X[7])
			}
		}
		if fmt.Sprint(got) != fmt.Sprint(e.d) || s.h.Csr.Mcause != 0 {
			t.Errorf("%s: %v, not %v; cause %d", e.name, got, e.d, s.h.Csr.Mcause)
		}
	}
}

// P14.6: at another place nothing is stored, and the reserved one is held no more.
func TestRedeemElsewhere(t *testing.T) {
	other := amoOf(sc, false)
	other.Rs1 = 10
	s := scened(64, amoOf(lr, false), other, amoOf(sc, false))
	s.h.X[8], s.h.X[9], s.h.X[10] = base+32, 0x77, base+40
	s = s.step()
	s.becomes(t, "at another place", func(s *scene) { s.h.X[7], s.h.Held = 1, false })
	s = s.step()
	s.becomes(t, "at the first one then", func(s *scene) { s.h.X[7] = 1 })
}

// P14.6: no multiple: trap 6, of F 2 trap 4, with the address, wherever it is; nothing is held less for it.
func TestAmoAlign(t *testing.T) {
	for _, f := range amoFs {
		for _, word := range []bool{false, true} {
			for _, from := range []uint64{base + 32, 0x10000000, 0, base + 64} {
				for off := range uint64(8) {
					if off == 0 || word && off == 4 {
						continue
					}
					s := scened(64, amoOf(f, word))
					s.h.X[8], s.h.Held, s.h.Reserve = from+off, true, from+off
					cause := 6
					if f == lr {
						cause = 4
					}
					s.traps(t, fmt.Sprintf("F %d at %#x", f, from+off), cause, from+off)
				}
			}
		}
	}
	s := paged(api.Supervisor, amoOf(0, true))
	s.h.X[8] = 0x5002
	s.trapsWith(t, "without a page", 6, 0x5002, func(s *scene) { s.mark(1, pteA) })
}

// P14.6: no memory, but a device, or nothing: trap 7, of F 2 trap 5, with the address; the device is not asked, and nothing is held less for it.
func TestAmoNowhere(t *testing.T) {
	for _, f := range amoFs {
		for _, word := range []bool{false, true} {
			for _, at := range []uint64{0, base - 8, base + 64, 0x2000000, 0x2004000, 0x200bff8, 0xc200008, 0xc001000, 0x10000000, 0x10001000, ones - 7, base + 1<<32} {
				s := scened(64, amoOf(f, word))
				s.h.X[8], s.h.Held, s.h.Reserve = at, true, at
				s.b.Uart.In = []byte("hi")
				cause := 7
				if f == lr {
					cause = 5
				}
				s.traps(t, fmt.Sprintf("F %d at %#x", f, at), cause, at)
			}
		}
	}
	// Of eight bytes just the first four are memory.
	s := scened(60, amoOf(0, false), amoOf(0, true))
	s.h.X[8] = base + 56
	s.traps(t, "over the end", 7, base+56)
	s.h.Pc += 4
	s.put(base+56, 4, 3)
	s.becomes(t, "at the end", func(s *scene) { s.h.X[7] = 3; s.put(base+56, 4, 3+s.h.X[9]) })
}

// P14.6: with pages: where the address leads; F 2 leaves the mark of reading, all others that of writing, F 3 that stores nothing, too.
func TestAmoPages(t *testing.T) {
	for _, priv := range []int{api.User, api.Supervisor} {
		for _, f := range amoFs {
			s := pagedData(priv, pteR|pteW, amoOf(f, false))
			s.h.X[8] = 0x3018
			bits := uint64(pteA | pteD)
			left := func(s *scene) { s.h.X[7] = 0x1122334455667788 }
			switch f {
			case lr:
				bits = pteA
				left = func(s *scene) { s.h.X[7], s.h.Held, s.h.Reserve = 0x1122334455667788, true, lastPage+0x18 }
			case sc:
				left = func(s *scene) { s.h.X[7] = 1 }
			case 0:
				left = func(s *scene) {
					s.h.X[7] = 0x1122334455667788
					s.put(lastPage+0x18, 8, 0x1122334455667788+s.h.X[9])
				}
			case 1:
				left = func(s *scene) { s.h.X[7] = 0x1122334455667788; s.put(lastPage+0x18, 8, s.h.X[9]) }
			default:
				s.h.X[9] = 0x1122334455667788
				left = func(s *scene) {
					s.h.X[7] = 0x1122334455667788
					if f == 4 {
						s.put(lastPage+0x18, 8, 0)
					}
				}
			}
			s.becomes(t, fmt.Sprintf("F %d", f), func(s *scene) { left(s); s.mark(1, pteA); s.mark(3, bits) })
		}
	}
}

// P14.6: what is reserved is the place in memory: two addresses that lead there are one.
func TestReserveIsPlace(t *testing.T) {
	other := amoOf(sc, false)
	other.Rs1 = 10
	s := pagedData(api.User, pteR|pteW, amoOf(lr, false), other)
	s.page(4, lastPage, pteR|pteW)
	s.h.X[8], s.h.X[10] = 0x3018, 0x4018
	s = s.step()
	s.becomes(t, "by another address", func(s *scene) {
		s.h.X[7], s.h.Held = 0, false
		s.put(lastPage+0x18, 8, s.h.X[9])
		s.mark(4, pteA|pteD)
	})
	s.page(3, codePage, pteR|pteW)
	s.h.X[10] = 0x3018
	s.becomes(t, "by the same address, which leads elsewhere now", func(s *scene) { s.h.X[7], s.h.Held = 1, false; s.mark(3, pteA|pteD) })
}

// P14.6: pages that may not be written, or, of F 2, read; and such as lead to no memory, which have their marks nevertheless.
func TestAmoPageFaults(t *testing.T) {
	for _, f := range amoFs {
		page, access, bits := 15, 7, uint64(pteA|pteD)
		if f == lr {
			page, access, bits = 13, 5, pteA
		}
		for name, e := range map[string]uint64{"not to be read": pteX, "not to be written": pteR, "no page": 0} {
			if f == lr && e == pteR {
				continue
			}
			s := pagedData(api.User, e, amoOf(f, false))
			s.h.X[8], s.h.Held, s.h.Reserve = 0x3018, true, 0x3018
			s.trapsWith(t, fmt.Sprintf("F %d, %s", f, name), page, 0x3018, func(s *scene) { s.mark(1, pteA) })
		}
		s := pagedData(api.User, pteR|pteW, amoOf(f, true))
		s.page(3, 0x10000000, pteR|pteW)
		s.h.X[8], s.b.Uart.In = 0x3018, []byte("x")
		s.trapsWith(t, fmt.Sprintf("F %d, a device", f), access, 0x3018, func(s *scene) { s.mark(1, pteA); s.mark(3, bits) })
	}
}
