package hart

import (
	"math"
	"slices"
	"testing"

	"drawbridge/api"
)

// P14.1: New of even and odd addresses answers a processor of the Machine there, with nothing else, which may be.
func TestNew(t *testing.T) {
	for _, pc := range []uint64{0, 1, 2, 3, 4, 7, base, base + 1, base + 2, 1 << 63, 1<<63 + 1, ones - 1, ones} {
		h := New(pc)
		want := api.Hart{Pc: pc / 2 * 2, X: make([]uint64, 32), Priv: 3}
		if text := differ(scene{h: h}, scene{h: want}); text != "" {
			t.Errorf("New(%#x): %s", pc, text)
		}
		if !Check(h) {
			t.Errorf("New(%#x) may not be", pc)
		}
	}
}

// registersOf answers n registers, the first one 0.
func registersOf(n int) []uint64 {
	x := make([]uint64, n)
	for i := range x {
		x[i] = uint64(i)
	}
	return x
}

// with answers a processor that may be, changed.
func with(change func(h *api.Hart)) api.Hart {
	h := New(base)
	h.X = registersOf(32)
	change(&h)
	return h
}

// rightOnes are processors that may be.
func rightOnes() []api.Hart {
	return []api.Hart{
		with(func(*api.Hart) {}),
		with(func(h *api.Hart) { h.Pc = 0 }),
		with(func(h *api.Hart) { h.Pc = ones - 1 }),
		with(func(h *api.Hart) { h.X = make([]uint64, 32) }),
		with(func(h *api.Hart) { h.X[1], h.X[31] = ones, ones }),
		with(func(h *api.Hart) { h.X = append(h.X, 1)[:32] }),
		with(func(h *api.Hart) { h.Priv = api.User }),
		with(func(h *api.Hart) { h.Priv = api.Supervisor }),
		with(func(h *api.Hart) { h.Reserve, h.Held, h.Wait = ones, true, true }),
		with(func(h *api.Hart) { h.Reserve = 3 }),
		with(func(h *api.Hart) { h.Csr.Status = 0x7e19aa }),
		with(func(h *api.Hart) { h.Csr.Medeleg, h.Csr.Mideleg, h.Csr.Mie, h.Csr.Mip = 0xb3ff, 0x222, 0xaaa, 0xaaa }),
		with(func(h *api.Hart) { h.Csr.Mtvec, h.Csr.Stvec, h.Csr.Mepc, h.Csr.Sepc = ones-2, ones-2, ones-1, ones-1 }),
		with(func(h *api.Hart) { h.Csr.Satp, h.Csr.Cycle, h.Csr.Mtval, h.Csr.Stval = 8<<60|5, ones, ones, ones }),
	}
}

// wrongOnes are processors that may not be, each for one reason alone.
func wrongOnes() []api.Hart {
	return []api.Hart{
		{},
		with(func(h *api.Hart) { h.X = nil }),
		with(func(h *api.Hart) { h.X = h.X[:31] }),
		with(func(h *api.Hart) { h.X = registersOf(33) }),
		with(func(h *api.Hart) { h.X = registersOf(64) }),
		with(func(h *api.Hart) { h.X = h.X[:1] }),
		with(func(h *api.Hart) { h.X[0] = 1 }),
		with(func(h *api.Hart) { h.X[0] = 1 << 63 }),
		with(func(h *api.Hart) { h.Pc = 1 }),
		with(func(h *api.Hart) { h.Pc = base + 3 }),
		with(func(h *api.Hart) { h.Pc = ones }),
		with(func(h *api.Hart) { h.Csr.Status = 1 }),
		with(func(h *api.Hart) { h.Csr.Status = 2 << 11 }),
		with(func(h *api.Hart) { h.Csr.Status = 10 << 32 }),
		with(func(h *api.Hart) { h.Csr.Medeleg = 1 << 10 }),
		with(func(h *api.Hart) { h.Csr.Mideleg = 1 << 3 }),
		with(func(h *api.Hart) { h.Csr.Mie = 1 << 2 }),
		with(func(h *api.Hart) { h.Csr.Mip = 1 << 12 }),
		with(func(h *api.Hart) { h.Csr.Mtvec = 2 }),
		with(func(h *api.Hart) { h.Csr.Stvec = 2 }),
		with(func(h *api.Hart) { h.Csr.Mepc = 1 }),
		with(func(h *api.Hart) { h.Csr.Sepc = 1 }),
		with(func(h *api.Hart) { h.Csr.Satp = 1 << 60 }),
		with(func(h *api.Hart) { h.Csr.Satp = 9 << 60 }),
		with(func(h *api.Hart) { h.Priv = 2 }),
		with(func(h *api.Hart) { h.Priv = -1 }),
		with(func(h *api.Hart) { h.Priv = 4 }),
		with(func(h *api.Hart) { h.Priv = 7 }),
		with(func(h *api.Hart) { h.Priv = math.MinInt }),
		with(func(h *api.Hart) { h.Priv = math.MaxInt }),
		with(func(h *api.Hart) { h.Priv = 1 << 32 }),
	}
}

// P14.1: Check of each.
func TestCheck(t *testing.T) {
	for i, h := range rightOnes() {
		if !Check(h) {
			t.Errorf("right one %d may not be", i)
		}
	}
	for i, h := range wrongOnes() {
		if Check(h) {
			t.Errorf("wrong one %d may be", i)
		}
	}
}

// loud answers a scene whose board has all lines up, and that goes up on a memory's place with each step.
func loud() scene {
	s := scened(64,
		api.Ins{Class: api.AluImm, Rd: 1, Rs1: 1, Imm: 1},
		api.Ins{Class: api.Jal, Imm: neg(4)})
	s.b.Clint = api.Clint{Time: 1, Soft: true}
	s.b.Uart.In, s.b.Uart.Ie = []byte("x"), 1
	s.b.Plic.Prio, s.b.Plic.Enable = []int{0, 1, 1}, []int{2, 2}
	return s
}

// P14.1: Step and Run of a processor that may not be: both as they are, Cycle and the board's lines, too.
func TestStepWrong(t *testing.T) {
	for i, h := range wrongOnes() {
		s := loud()
		s.h = h
		was := s.clone()
		if text := differ(s.step(), was); text != "" {
			t.Errorf("Step of wrong one %d: %s", i, text)
		}
		for _, n := range []int{-1, 0, 1, 2, 10000} {
			h, b := Run(s.h, s.b, n)
			if text := differ(scene{h, b}, was); text != "" {
				t.Errorf("Run of wrong one %d, %d: %s", i, n, text)
			}
		}
	}
}

// P14.1: Run does as many steps as it is asked for, 10000 at most, none of 0 and below.
func TestRun(t *testing.T) {
	for _, e := range []struct {
		n     int
		steps uint64
	}{
		{0, 0}, {-1, 0}, {-10000, 0}, {math.MinInt, 0}, {1, 1}, {2, 2}, {3, 3}, {10, 10}, {9999, 9999},
		{10000, 10000}, {10001, 10000}, {20000, 10000}, {1 << 32, 10000}, {math.MaxInt, 10000},
	} {
		s := loud()
		s.h.X[1] = 0
		want := s.clone()
		h, b := Run(s.h, s.b, e.n)
		want.h.Csr.Cycle = e.steps
		// Each step but every second one, which jumps back, counts.
		want.h.X[1] = (e.steps + 1) / 2
		want.h.Pc = base + 4*(e.steps%2)
		if e.steps > 0 {
			want.h.Csr.Mip, want.b.Plic.Pending = 1<<3|1<<7|1<<9|1<<11, 2
		}
		if text := differ(scene{h, b}, want); text != "" {
			t.Errorf("Run of %d: %s", e.n, text)
		}
	}
}

// P14.1: Run is so many calls of Step, through traps, interrupts and waiting.
func TestRunIsSteps(t *testing.T) {
	s := loud()
	s.h.Csr.Mtvec, s.h.Csr.Status, s.h.Csr.Mie = base+0x10, mie, 1<<3
	s.put(base+0x10, 4, uint64(wordOf(api.Ins{Class: api.System, F: api.Mret})))
	s.put(base+0x14, 4, uint64(wordOf(api.Ins{Class: api.System, F: api.Wfi})))
	one := s.clone()
	for n := range 40 {
		h, b := Run(s.h, s.b, n)
		if text := differ(scene{h, b}, one); text != "" {
			t.Errorf("Run of %d: %s", n, text)
		}
		one = one.step()
	}
	if slices.Equal(one.h.X, s.h.X) && one.h.Csr.Mcause == 0 {
		t.Error("nothing was done")
	}
}

// P14.4: Example 1: addi x1, x0, 5 at Pc.
func TestExample(t *testing.T) {
	s := scened(4)
	s.put(base, 4, 0x00500093)
	if left := s.step(); left.h.X[1] != 5 || left.h.Pc != base+4 {
		t.Errorf("x1 is %#x, Pc %#x", left.h.X[1], left.h.Pc)
	}
	s.becomes(t, "addi x1, x0, 5", func(s *scene) { s.h.X[1] = 5 })
}
