package hart

import (
	"fmt"
	"slices"
	"testing"

	"drawbridge/api"
)

// reckons are rows of layer 4's Do: what a and b become, told by hand; onlyRegs: there is no such AluImm.
var reckons = []struct {
	name       string
	f          int
	word       bool
	a, b, want uint64
	onlyRegs   bool
}{
	{"add", api.Add, false, ones, 2, 1, false},
	{"sll", api.Sll, false, 3, 63, 1 << 63, false},
	{"slt", api.Slt, false, ones, 1, 1, false},
	{"slt not", api.Slt, false, 1, ones, 0, false},
	{"sltu", api.Sltu, false, 1, ones, 1, false},
	{"sltu not", api.Sltu, false, ones, 1, 0, false},
	{"xor", api.Xor, false, 0xff00, 0x7f0, 0xf8f0, false},
	{"srl", api.Srl, false, 1 << 63, 62, 2, false},
	{"or", api.Or, false, 0xff00, 0x7f0, 0xfff0, false},
	{"and", api.And, false, 0xff00, 0x7f0, 0x700, false},
	{"sra", api.Sra, false, 1 << 63, 62, ones - 1, false},
	{"addw", api.Add, true, 0x7fffffff, 1, 0xffffffff80000000, false},
	{"sllw", api.Sll, true, 3, 31, 0xffffffff80000000, false},
	{"srlw", api.Srl, true, 0xffffffff80000000, 30, 2, false},
	{"sraw", api.Sra, true, 0x80000000, 30, ones - 1, false},
	{"sub", api.Sub, false, 1, 2, ones, true},
	{"mul", api.Mul, false, 1 << 32, 1<<32 + 3, 3 << 32, true},
	{"mulh", 17, false, ones, 1, ones, true},
	{"mulhsu", 18, false, ones, ones, ones, true},
	{"mulhu", 19, false, ones, ones, ones - 1, true},
	{"div", api.Div, false, neg(7), 2, neg(3), true},
	{"divu", api.Divu, false, neg(8), 2, 1<<63 - 4, true},
	{"rem", api.Rem, false, neg(7), 2, ones, true},
	{"remu", api.Remu, false, neg(7), 4, 1, true},
	{"div by 0", api.Div, false, 5, 0, ones, true},
	{"rem by 0", api.Rem, false, 5, 0, 5, true},
	{"div of the least", api.Div, false, 1 << 63, ones, 1 << 63, true},
	{"rem of the least", api.Rem, false, 1 << 63, ones, 0, true},
	{"subw", api.Sub, true, 0, 1, ones, true},
	{"mulw", api.Mul, true, 0x10001, 0x10000, 0x10000, true},
	{"divw", api.Div, true, 0xfffffff9, 2, neg(3), true},
	{"divuw", api.Divu, true, 0xfffffff8, 2, 0x7ffffffc, true},
	{"remw", api.Rem, true, 0xfffffff9, 2, ones, true},
	{"remuw", api.Remu, true, 0xfffffff9, 4, 1, true},
}

// P14.4: every row of layer 4's Do, by an Alu, and by an AluImm, if there is one.
func TestReckon(t *testing.T) {
	for _, e := range reckons {
		s := scened(64, api.Ins{Class: api.Alu, F: e.f, Word: e.word, Rd: 7, Rs1: 8, Rs2: 9})
		s.h.X[8], s.h.X[9] = e.a, e.b
		s.becomes(t, e.name, func(s *scene) { s.h.X[7] = e.want })
		if e.onlyRegs {
			continue
		}
		s = scened(64, api.Ins{Class: api.AluImm, F: e.f, Word: e.word, Rd: 7, Rs1: 8, Imm: e.b})
		s.h.X[8] = e.a
		s.becomes(t, e.name+" of an immediate", func(s *scene) { s.h.X[7] = e.want })
	}
}

// P14.4: one register may be all that an instruction names.
func TestReckonOneRegister(t *testing.T) {
	s := scened(64, api.Ins{Class: api.Alu, F: api.Add, Rd: 8, Rs1: 8, Rs2: 8})
	s.h.X[8] = 21
	s.becomes(t, "add", func(s *scene) { s.h.X[8] = 42 })
	s = scened(64, api.Ins{Class: api.AluImm, F: api.Add, Rd: 31, Rs1: 31, Imm: neg(1)})
	s.h.X[31] = 0
	s.becomes(t, "addi", func(s *scene) { s.h.X[31] = ones })
}

// P14.4: every row of layer 4's Cond, taken and not, forwards and backwards.
func TestBranch(t *testing.T) {
	for _, e := range []struct {
		f     int
		a, b  uint64
		taken bool
	}{
		{0, 5, 5, true}, {0, 5, 6, false},
		{1, 5, 6, true}, {1, 5, 5, false},
		{4, ones, 1, true}, {4, 1, ones, false}, {4, 5, 5, false},
		{5, 1, ones, true}, {5, ones, 1, false}, {5, 5, 5, true},
		{6, 1, ones, true}, {6, ones, 1, false}, {6, 5, 5, false},
		{7, ones, 1, true}, {7, 1, ones, false}, {7, 5, 5, true},
	} {
		for _, far := range []uint64{8, 4, 2, 4094, neg(4), neg(8), neg(4096), 0} {
			s := scened(64)
			s.h.Pc = base + 16
			s.put(base+16, 4, uint64(wordOf(api.Ins{Class: api.Branch, F: e.f, Rs1: 8, Rs2: 9, Imm: far})))
			s.h.X[8], s.h.X[9] = e.a, e.b
			s.becomes(t, fmt.Sprintf("%v by %#x", e, far), func(s *scene) {
				if e.taken {
					s.h.Pc = base + 16 + far
				}
			})
		}
	}
}

// P14.4: Lui and Auipc.
func TestUpper(t *testing.T) {
	for _, imm := range []uint64{0, 0x1000, 0x7ffff000, 0xffffffff80000000, 0xfffffffffffff000} {
		s := scened(64)
		s.h.Pc = base + 8
		s.put(base+8, 4, uint64(wordOf(api.Ins{Class: api.Lui, Rd: 6, Imm: imm})))
		s.becomes(t, "lui", func(s *scene) { s.h.X[6] = imm })
		s.put(base+8, 4, uint64(wordOf(api.Ins{Class: api.Auipc, Rd: 6, Imm: imm})))
		s.becomes(t, "auipc", func(s *scene) { s.h.X[6] = base + 8 + imm })
	}
}

// P14.4: Jal: Rd is what is behind it.
func TestJal(t *testing.T) {
	for _, imm := range []uint64{0, 2, 4, 8, 1<<20 - 2, neg(2), neg(16), neg(1 << 20)} {
		s := scened(64)
		s.h.Pc = base + 10
		s.put(base+10, 4, uint64(wordOf(api.Ins{Class: api.Jal, Rd: 6, Imm: imm})))
		s.becomes(t, "jal", func(s *scene) { s.h.X[6], s.h.Pc = base+14, base+10+imm })
	}
}

// P14.4: Jalr: its sum is without the lowest bit, and its registers may be one.
func TestJalr(t *testing.T) {
	for _, e := range []struct{ a, imm, pc uint64 }{
		{0x1234, 0, 0x1234}, {0x1235, 0, 0x1234}, {0x1234, 1, 0x1234}, {0x1235, 1, 0x1236}, {0x1235, neg(1), 0x1234},
		{0, neg(2), ones - 1}, {ones, 2, 0}, {ones, 0, ones - 1}, {base, 2047, base + 2046}, {base, neg(2048), base - 2048},
	} {
		for _, rd := range []int{6, 9} {
			s := scened(64, api.Ins{Class: api.Jalr, Rd: rd, Rs1: 9, Imm: e.imm})
			s.h.X[9] = e.a
			s.becomes(t, fmt.Sprintf("jalr %v into %d", e, rd), func(s *scene) { s.h.X[rd], s.h.Pc = base+4, e.pc })
		}
	}
	s := scened(64, api.Ins{Class: api.Jalr, Rd: 1, Imm: 0x124})
	s.becomes(t, "jalr from register 0", func(s *scene) { s.h.X[1], s.h.Pc = base+4, 0x124 })
}

// P14.4: Pc and its sums turn over.
func TestSumsTurnOver(t *testing.T) {
	s := paged(api.Supervisor)
	s.page(511, codePage, pteX)
	s.h.Pc = ones - 3
	marked := func(change func(s *scene)) func(s *scene) {
		return func(s *scene) { change(s); s.mark(511, pteA) }
	}
	s.put(codePage+0xffc, 4, uint64(wordOf(api.Ins{Class: api.Jal, Rd: 6, Imm: 16})))
	s.becomes(t, "jal", marked(func(s *scene) { s.h.X[6], s.h.Pc = 0, 12 }))
	s.put(codePage+0xffc, 4, uint64(wordOf(api.Ins{Class: api.Auipc, Rd: 6, Imm: 0x1000})))
	s.becomes(t, "auipc", marked(func(s *scene) { s.h.X[6] = 0xffc }))
	s.put(codePage+0xffc, 4, uint64(wordOf(api.Ins{Class: api.Branch, Rs1: 6, Rs2: 6, Imm: 6})))
	s.becomes(t, "beq", marked(func(s *scene) { s.h.Pc = 2 }))
}

// P14.4: Fence does nothing, and goes on.
func TestFence(t *testing.T) {
	for _, f := range []int{0, 1} {
		s := scened(64, api.Ins{Class: api.Fence, F: f})
		s.becomes(t, "fence", nothing)
		s.put(base, 4, s.get(base, 4)|0x0ff10f80)
		s.becomes(t, "fence with registers", nothing)
	}
}

// P14.4: each register is read, and answered into, by its own number.
func TestEachRegister(t *testing.T) {
	for n := range 32 {
		s := scened(64, api.Ins{Class: api.Alu, F: api.Sub, Rd: n, Rs1: (n + 5) % 32, Rs2: (n + 11) % 32})
		x := slices.Clone(s.h.X)
		s.becomes(t, fmt.Sprintf("sub into x%d", n), func(s *scene) {
			if n > 0 {
				s.h.X[n] = x[(n+5)%32] - x[(n+11)%32]
			}
		})
	}
}
