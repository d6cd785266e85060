package trap

import (
	"testing"

	"drawbridge/api"
	"drawbridge/csr"
)

// P6.1, P6.2: the chapter's example.
func TestExample(t *testing.T) {
	const pc = 0x80000004
	c, priv, where := Enter(api.Csrs{Mtvec: 0x80000100}, api.User, pc, api.CauseCallU, false, 0)
	if want := (api.Csrs{Mtvec: 0x80000100, Mcause: 8, Mepc: pc}); c != want || priv != api.Machine || where != 0x80000100 {
		t.Errorf("Enter = %x, %d, %#x", c, priv, where)
	}
	if _, priv, where := Mret(c); priv != api.User || where != pc {
		t.Errorf("Mret = %d, %#x", priv, where)
	}
}

// entry is a call of Enter.
type entry struct {
	c     api.Csrs
	priv  int
	pc    uint64
	cause int
	irq   bool
	tval  uint64
}

// do calls Enter.
func (e entry) do() (api.Csrs, int, uint64) { return Enter(e.c, e.priv, e.pc, e.cause, e.irq, e.tval) }

// hold holds what Enter answers against the chapter.
func (e entry) hold(t *testing.T) {
	t.Helper()
	c, priv, where := e.do()
	wantC, wantPriv, wantWhere := enterOf(e.c, e.priv, e.pc, e.cause, e.irq, e.tval)
	if c != wantC || priv != wantPriv || where != wantWhere {
		t.Fatalf("Enter(%+v) = %x, %d, %#x, not %x, %d, %#x", e, c, priv, where, wantC, wantPriv, wantWhere)
	}
}

// P6.1: what becomes of the registers, and where it leads, told number by number.
func TestEnterExamples(t *testing.T) {
	const pc = 0x80000010
	m := api.Csrs{Mtvec: 0x80000101, Stvec: 0x80000201}
	with := func(f func(c *api.Csrs)) api.Csrs {
		c := m
		f(&c)
		return c
	}
	for name, e := range map[string]struct {
		call  entry
		want  api.Csrs
		priv  int
		where uint64
	}{
		"of the Machine": {
			entry{with(func(c *api.Csrs) { c.Status = 0x8 }), 3, pc, 2, false, 0xdead},
			with(func(c *api.Csrs) { c.Status, c.Mcause, c.Mepc, c.Mtval = 0x1880, 2, pc, 0xdead }), 3, 0x80000100,
		},
		"of the Supervisor, to the Machine": {
			entry{with(func(c *api.Csrs) { c.Status = 0x1888 }), 1, pc, 9, false, 0},
			with(func(c *api.Csrs) { c.Status, c.Mcause, c.Mepc = 0x880, 9, pc }), 3, 0x80000100,
		},
		"of a User, to the Machine": {
			entry{with(func(c *api.Csrs) { c.Status = 0x1880 }), 0, pc, 13, false, 7},
			with(func(c *api.Csrs) { c.Mcause, c.Mepc, c.Mtval = 13, pc, 7 }), 3, 0x80000100,
		},
		"of a User, to the Supervisor": {
			entry{with(func(c *api.Csrs) { c.Medeleg, c.Status = 1<<13, 0x102 }), 0, pc, 13, false, 7},
			with(func(c *api.Csrs) { c.Medeleg, c.Status, c.Scause, c.Sepc, c.Stval = 1<<13, 0x20, 13, pc, 7 }), 1, 0x80000200,
		},
		"of the Supervisor, to itself": {
			entry{with(func(c *api.Csrs) { c.Medeleg, c.Status = 1<<3, 0x22 }), 1, pc + 1, 3, false, pc},
			with(func(c *api.Csrs) { c.Medeleg, c.Status, c.Scause, c.Sepc, c.Stval = 1<<3, 0x120, 3, pc, pc }), 1, 0x80000200,
		},
		"of the Machine, though delegated": {
			entry{with(func(c *api.Csrs) { c.Medeleg = 0xb3ff }), 3, pc, 3, false, pc},
			with(func(c *api.Csrs) { c.Medeleg, c.Status, c.Mcause, c.Mepc, c.Mtval = 0xb3ff, 0x1800, 3, pc, pc }), 3, 0x80000100,
		},
		"an interrupt of the Machine": {
			entry{with(func(c *api.Csrs) { c.Status = 0xa }), 0, pc, 7, true, 0},
			with(func(c *api.Csrs) { c.Status, c.Mcause, c.Mepc = 0x82, 1<<63+7, pc }), 3, 0x8000011c,
		},
		"an interrupt of the Supervisor": {
			entry{with(func(c *api.Csrs) { c.Mideleg, c.Status = 0x20, 0xa }), 1, pc, 5, true, 0},
			with(func(c *api.Csrs) { c.Mideleg, c.Status, c.Scause, c.Sepc = 0x20, 0x128, 1<<63+5, pc }), 1, 0x80000214,
		},
		"an interrupt, delegated as a cause alone": {
			entry{with(func(c *api.Csrs) { c.Medeleg = 0x20 }), 0, pc, 5, true, 0},
			with(func(c *api.Csrs) { c.Medeleg, c.Mcause, c.Mepc = 0x20, 1<<63+5, pc }), 3, 0x80000114,
		},
		"a cause, delegated as an interrupt alone": {
			entry{with(func(c *api.Csrs) { c.Mideleg = 0x20 }), 0, pc, 5, false, 0},
			with(func(c *api.Csrs) { c.Mideleg, c.Mcause, c.Mepc = 0x20, 5, pc }), 3, 0x80000100,
		},
		"of a privilege that there is not": {
			entry{with(func(c *api.Csrs) { c.Status, c.Medeleg = 0x1800, 0x20 }), 2, pc, 5, false, 0},
			with(func(c *api.Csrs) { c.Medeleg, c.Mcause, c.Mepc = 0x20, 5, pc }), 3, 0x80000100,
		},
		"a cause above 63": {
			entry{with(func(c *api.Csrs) { c.Medeleg = 1 << 8 }), 0, pc, 72, false, 0},
			with(func(c *api.Csrs) { c.Medeleg, c.Scause, c.Sepc = 1<<8, 72, pc }), 1, 0x80000200,
		},
		"a cause below 0": {
			entry{with(func(c *api.Csrs) { c.Mideleg = 1 << 63 }), 0, pc, -1, true, 0},
			with(func(c *api.Csrs) { c.Mideleg, c.Scause, c.Sepc = 1<<63, ones, pc }), 1, 0x800001fc,
		},
		"at the ends": {
			entry{api.Csrs{Mtvec: ones - 2}, 3, ones, 1, true, ones},
			api.Csrs{Status: 0x1800, Mtvec: ones - 2, Mcause: 1<<63 + 1, Mepc: ones - 1, Mtval: ones}, 3, 0,
		},
	} {
		if c, priv, where := e.call.do(); c != e.want || priv != e.priv || where != e.where {
			t.Errorf("%s: %x, %d, %#x, not %x, %d, %#x", name, c, priv, where, e.want, e.priv, e.where)
		}
	}
}

// P6.1: each cause, an interrupt or not, of each privilege, delegated or not, of registers that may be and of those that may not.
func TestEnter(t *testing.T) {
	for _, c := range some() {
		for _, cause := range causes() {
			for _, priv := range privs {
				for _, irq := range []bool{false, true} {
					e := entry{c, priv, 0x80000123, cause, irq, 0xfedcba9876543210}
					e.hold(t)
					bit := uint64(1) << modulo(cause, 64)
					e.c.Medeleg, e.c.Mideleg = bit, ones-bit
					e.hold(t)
					e.c.Medeleg, e.c.Mideleg = ones-bit, bit
					e.hold(t)
				}
			}
		}
	}
}

// P6.1: to the Supervisor goes what is delegated, by its own bit alone, of the Supervisor and of Users.
func TestToWhom(t *testing.T) {
	for cause := range 64 {
		for bit := range 64 {
			for _, priv := range levels {
				want := api.Machine
				if bit == cause && priv != api.Machine {
					want = api.Supervisor
				}
				if _, to, _ := Enter(api.Csrs{Medeleg: 1 << bit}, priv, 0, cause, false, 0); to != want {
					t.Errorf("cause %d of %d, Medeleg's bit %d: to %d", cause, priv, bit, to)
				}
				if _, to, _ := Enter(api.Csrs{Mideleg: 1 << bit}, priv, 0, cause, true, 0); to != want {
					t.Errorf("interrupt %d of %d, Mideleg's bit %d: to %d", cause, priv, bit, to)
				}
			}
		}
	}
}

// P6.1: each bit of Status that a trap changes, as it was ahead of it, and that the others stay.
func TestEnterStatus(t *testing.T) {
	for _, status := range places() {
		for _, priv := range privs {
			toS, toM := status&^0x122, status&^0x1888
			toS |= status >> sie & 1 << spie
			toM |= status >> mie & 1 << mpie
			if has(wrapped(priv), 0) {
				toS |= 1 << spp
			}
			toM |= []uint64{0, 1, 0, 3}[modulo(priv, 4)] << mpp
			if c, _, _ := Enter(api.Csrs{Status: status}, priv, 0, 4, false, 0); c.Status != toM {
				t.Errorf("Status %#x, of %d: %#x, not %#x", status, priv, c.Status, toM)
			}
			c, to, _ := Enter(api.Csrs{Status: status, Medeleg: 1 << 4}, priv, 0, 4, false, 0)
			if to == api.Supervisor && c.Status != toS || to == api.Machine && c.Status != toM {
				t.Errorf("Status %#x, of %d to %d: %#x", status, priv, to, c.Status)
			}
		}
	}
}

// P6.1: where a trap leads, by each lowest bits of Stvec and Mtvec, and how pc and tval are kept.
func TestWhere(t *testing.T) {
	for _, x := range places() {
		for low := range uint64(4) {
			vec := x&^3 + low
			for _, cause := range causes() {
				for _, irq := range []bool{false, true} {
					where := x &^ 3
					if irq && (low == 1 || low == 3) {
						where += wrapped(cause) * 4
					}
					c, _, got := Enter(api.Csrs{Mtvec: vec, Stvec: ^vec}, api.Machine, x, cause, irq, ^x)
					if got != where || c.Mepc != x&^1 || c.Mtval != ^x || c.Mtvec != vec {
						t.Fatalf("Mtvec %#x, cause %d, %v: %#x, %x", vec, cause, irq, got, c)
					}
					c, _, got = Enter(api.Csrs{Mtvec: ^vec, Stvec: vec, Medeleg: ones, Mideleg: ones}, api.User, x, cause, irq, ^x)
					if got != where || c.Sepc != x&^1 || c.Stval != ^x || c.Stvec != vec {
						t.Fatalf("Stvec %#x, cause %d, %v: %#x, %x", vec, cause, irq, got, c)
					}
				}
			}
		}
	}
}

// P6.2: both returns, told number by number; of Mret bit 17 stays, if it leads to the Machine.
func TestReturnExamples(t *testing.T) {
	for _, e := range []struct {
		name   string
		leave  func(api.Csrs) (api.Csrs, int, uint64)
		status uint64
		want   uint64
		priv   int
		where  uint64
	}{
		{"Mret", Mret, 0, 0x80, 0, 0x100},
		{"Mret", Mret, 0x80, 0x88, 0, 0x100},
		{"Mret", Mret, 0x8, 0x80, 0, 0x100},
		{"Mret", Mret, 0x20880, 0x88, 1, 0x100},
		{"Mret", Mret, 0x20000, 0x80, 0, 0x100},
		{"Mret", Mret, 0x21800, 0x20080, 3, 0x100},
		{"Mret", Mret, 0x1808, 0x80, 3, 0x100},
		{"Mret", Mret, 0x21000, 0x80, 2, 0x100}, // registers that may not be
		{"Mret", Mret, 0x7e19aa, 0x7e01aa, 3, 0x100},
		{"Mret", Mret, ones, ones - 0x1800, 3, 0x100},
		{"Sret", Sret, 0, 0x20, 0, 0x200},
		{"Sret", Sret, 0x20, 0x22, 0, 0x200},
		{"Sret", Sret, 0x2, 0x20, 0, 0x200},
		{"Sret", Sret, 0x20120, 0x22, 1, 0x200},
		{"Sret", Sret, 0x20100, 0x20, 1, 0x200},
		{"Sret", Sret, 0x20000, 0x20, 0, 0x200},
		{"Sret", Sret, 0x7e19aa, 0x7c18aa, 1, 0x200},
		{"Sret", Sret, ones, ones - 0x20100, 1, 0x200},
	} {
		c := api.Csrs{Status: e.status, Mepc: 0x100, Sepc: 0x200}
		after, priv, where := e.leave(c)
		c.Status = e.want
		if after != c || priv != e.priv || where != e.where {
			t.Errorf("%s of Status %#x: %x, %d, %#x, not %x, %d, %#x", e.name, e.status, after, priv, where, c, e.priv, e.where)
		}
	}
}

// P6.2: both returns, of each bit of Status, to each privilege, and that all else stays.
func TestReturns(t *testing.T) {
	for _, c := range some() {
		for _, status := range append(places(), c.Status) {
			for from := range uint64(4) {
				c.Status = status&^(3<<mpp) | from<<mpp
				after, priv, where := Mret(c)
				if wantC, wantPriv, wantWhere := mretOf(c); after != wantC || priv != wantPriv || where != wantWhere {
					t.Fatalf("Mret(%x) = %x, %d, %#x, not %x, %d, %#x", c, after, priv, where, wantC, wantPriv, wantWhere)
				}
				c.Status = status&^(1<<spp) | from&1<<spp
				after, priv, where = Sret(c)
				if wantC, wantPriv, wantWhere := sretOf(c); after != wantC || priv != wantPriv || where != wantWhere {
					t.Fatalf("Sret(%x) = %x, %d, %#x, not %x, %d, %#x", c, after, priv, where, wantC, wantPriv, wantWhere)
				}
			}
		}
	}
}

// P6.3: which interrupt comes, told number by number.
func TestPendingExamples(t *testing.T) {
	const all = 0xaaa
	for _, e := range []struct {
		c    api.Csrs
		priv int
		want int
		ok   bool
	}{
		{api.Csrs{}, 0, 0, false},
		{api.Csrs{Mip: all}, 0, 0, false},
		{api.Csrs{Mie: all}, 0, 0, false},
		{api.Csrs{Mip: 0x2a, Mie: 0xa80}, 0, 0, false},
		{api.Csrs{Mip: all, Mie: all}, 0, 11, true},
		{api.Csrs{Mip: all, Mie: 0x2aa}, 0, 3, true},
		{api.Csrs{Mip: 0x2a2, Mie: all}, 0, 7, true},
		{api.Csrs{Mip: 0x222, Mie: 0x222}, 0, 9, true},
		{api.Csrs{Mip: 0x22, Mie: all}, 0, 1, true},
		{api.Csrs{Mip: all, Mie: 0x20}, 0, 5, true},
		{api.Csrs{Mip: all, Mie: all}, 1, 11, true},
		{api.Csrs{Mip: all, Mie: all}, 3, 0, false},
		{api.Csrs{Mip: all, Mie: all, Status: 0x2}, 3, 0, false},
		{api.Csrs{Mip: all, Mie: all, Status: 0x8}, 3, 11, true},
		// What the Supervisor has.
		{api.Csrs{Mip: 0x222, Mie: all, Mideleg: 0x222}, 0, 9, true},
		{api.Csrs{Mip: 0x222, Mie: all, Mideleg: 0x222}, 1, 0, false},
		{api.Csrs{Mip: 0x222, Mie: all, Mideleg: 0x222, Status: 0x8}, 1, 0, false},
		{api.Csrs{Mip: 0x222, Mie: all, Mideleg: 0x222, Status: 0x2}, 1, 9, true},
		{api.Csrs{Mip: 0x222, Mie: all, Mideleg: 0x222, Status: 0xa}, 3, 0, false},
		// What the Machine has comes first, wherever it stands in the order.
		{api.Csrs{Mip: 0x220, Mie: all, Mideleg: 0x200}, 0, 5, true},
		{api.Csrs{Mip: 0x222, Mie: all, Mideleg: 0x202}, 0, 5, true},
		{api.Csrs{Mip: 0x220, Mie: all, Mideleg: 0x200, Status: 0x2}, 1, 5, true},
		{api.Csrs{Mip: 0x220, Mie: 0x200, Mideleg: 0x200, Status: 0x2}, 1, 9, true},
		{api.Csrs{Mip: all, Mie: all, Mideleg: 0x222}, 1, 11, true},
		// Privileges that there are not.
		{api.Csrs{Mip: 0x220, Mie: all, Mideleg: 0x20, Status: 0x2}, 2, 9, true},
		{api.Csrs{Mip: 0x20, Mie: all, Mideleg: 0x20, Status: 0x2}, 2, 0, false},
		{api.Csrs{Mip: all, Mie: all, Mideleg: 0x222}, 4, 0, false},
		{api.Csrs{Mip: all, Mie: all, Mideleg: 0x222, Status: 0x8}, 4, 11, true},
		{api.Csrs{Mip: 0x20, Mie: all, Mideleg: 0x20}, -1, 5, true},
		// Registers that may not be: bits that are no interrupts.
		{api.Csrs{Mip: ones - all, Mie: ones}, 0, 0, false},
		{api.Csrs{Mip: ones - all, Mie: ones, Mideleg: ones}, 0, 0, false},
		{api.Csrs{Mip: ones - all + 0x20, Mie: ones, Mideleg: 0x20}, 0, 5, true},
		{api.Csrs{Mip: ones, Mie: ones, Mideleg: ones}, 0, 11, true},
	} {
		if n, ok := Pending(e.c, e.priv); n != e.want || ok != e.ok {
			t.Errorf("Pending(%x, %d) = %d, %v, not %d, %v", e.c, e.priv, n, ok, e.want, e.ok)
		}
	}
}

// setOf answers the interrupts of which n has a bit, by their places in the order.
func setOf(n int) uint64 {
	x := uint64(0)
	for place, i := range lines {
		if n>>place&1 == 1 {
			x |= 1 << i
		}
	}
	return x
}

// P6.3: each interrupt, alone and beside all others, of each that Mip, Mie and Mideleg may be, with each privilege, with the bits that let interrupts in at 0 and at 1.
func TestPending(t *testing.T) {
	for mip := range 64 {
		for mie := range 64 {
			for _, mideleg := range []uint64{0, 0x002, 0x020, 0x022, 0x200, 0x202, 0x220, 0x222, 0xaaa, 0x888, ones} {
				for _, priv := range privs {
					for _, status := range []uint64{0, 1 << sie, 1 << mie, 1<<sie | 1<<mie, ones - 1<<sie, ones - 1<<mie, ones - 1<<sie - 1<<mie} {
						c := api.Csrs{Mip: setOf(mip), Mie: setOf(mie), Mideleg: mideleg, Status: status}
						n, ok := Pending(c, priv)
						if want, is := pendingOf(c, priv); n != want || ok != is {
							t.Fatalf("Pending(%x, %d) = %d, %v, not %d, %v", c, priv, n, ok, want, is)
						}
					}
				}
			}
		}
	}
}

// P6.3: of two the first in the order comes, if both are the Machine's, or both the Supervisor's; else the Machine's.
func TestPendingOfTwo(t *testing.T) {
	for i, one := range lines {
		for j, other := range lines {
			for deleg := range 64 {
				c := api.Csrs{Mip: 1<<one | 1<<other, Mie: 0xaaa, Mideleg: setOf(deleg)}
				oneOurs, otherOurs := has(c.Mideleg, one), has(c.Mideleg, other)
				want := one
				if otherOurs == oneOurs && j < i || !otherOurs && oneOurs {
					want = other
				}
				if n, ok := Pending(c, api.User); n != want || !ok {
					t.Errorf("Pending of %d and %d, Mideleg %#x = %d, %v", one, other, c.Mideleg, n, ok)
				}
			}
		}
	}
}

// P6.3: registers as chance would have them.
func TestPendingByChance(t *testing.T) {
	next := chance()
	for range 20000 {
		c := filled(next)
		if next()%2 == 0 {
			c = right(c)
		}
		for _, priv := range privs {
			n, ok := Pending(c, priv)
			if want, is := pendingOf(c, priv); n != want || ok != is {
				t.Fatalf("Pending(%x, %d) = %d, %v, not %d, %v", c, priv, n, ok, want, is)
			}
		}
	}
}

// P6.4: behind Enter and the return of where it went the privilege, the place and the bits that let interrupts in are as they were.
func TestThereAndBack(t *testing.T) {
	for _, c := range some() {
		for _, status := range places() {
			c.Status = status
			for _, priv := range levels {
				for _, cause := range []int{0, 1, 5, 8, 9, 15, 63} {
					for _, irq := range []bool{false, true} {
						for _, pc := range []uint64{0, 2, 0x80000004, ones - 1} {
							thereAndBack(t, entry{c, priv, pc, cause, irq, 7})
						}
					}
				}
			}
		}
	}
}

// thereAndBack enters e and returns.
func thereAndBack(t *testing.T, e entry) {
	t.Helper()
	c, to, _ := e.do()
	back := Mret
	if to == api.Supervisor {
		back = Sret
	}
	const open = 1<<sie | 1<<mie
	if after, priv, where := back(c); priv != e.priv || where != e.pc || after.Status&open != e.c.Status&open {
		t.Fatalf("%+v: back to %d, %#x, Status %#x", e, priv, where, after.Status)
	}
}

// P6.4: a trap of the Supervisor inside one of the Machine, and one inside it: each return leads to where its trap came from.
func TestNested(t *testing.T) {
	c := api.Csrs{Status: 1<<sie | 1<<mie, Medeleg: 1 << 8, Mtvec: 0x100, Stvec: 0x200}
	c, priv, where := Enter(c, api.User, 0x80000000, 8, false, 0)
	if priv != api.Supervisor || where != 0x200 {
		t.Fatal(priv, where)
	}
	c, priv, where = Enter(c, priv, where, 7, true, 0)
	if priv != api.Machine || where != 0x100 || c.Status&(1<<sie|1<<mie) != 0 {
		t.Fatal(priv, where, c.Status)
	}
	c, priv, where = Mret(c)
	if priv != api.Supervisor || where != 0x200 || c.Status&(1<<sie|1<<mie) != 1<<mie {
		t.Fatal(priv, where, c.Status)
	}
	c, priv, where = Sret(c)
	if priv != api.User || where != 0x80000000 || c.Status&(1<<sie|1<<mie) != 1<<sie|1<<mie {
		t.Fatal(priv, where, c.Status)
	}
}

// P6.1, P6.2: registers that may be stay so.
func TestRightStaysRight(t *testing.T) {
	next := chance()
	for range 5000 {
		c := right(filled(next))
		for step := range 20 {
			if !csr.Check(c) {
				t.Fatalf("step %d: %x", step, c)
			}
			switch next() % 3 {
			case 0:
				c, _, _ = Enter(c, int(next()%8)-2, next(), int(next()%70), next()%2 == 0, next())
			case 1:
				c, _, _ = Mret(c)
			case 2:
				c, _, _ = Sret(c)
			}
		}
	}
}

// R1, R4: no call panics, at whatever it is given, and none knows of another: the same call answers the same.
func TestSameAgain(t *testing.T) {
	next := chance()
	for range 20000 {
		c := filled(next)
		e := entry{c, int(next()), next(), int(next()), next()%2 == 0, next()}
		e.hold(t)
		n, ok := Pending(c, e.priv)
		m, mPriv, mWhere := Mret(c)
		s, sPriv, sWhere := Sret(c)
		e.hold(t)
		if nn, is := Pending(c, e.priv); nn != n || is != ok {
			t.Fatalf("Pending(%x, %d)", c, e.priv)
		}
		if after, priv, where := Mret(c); after != m || priv != mPriv || where != mWhere {
			t.Fatalf("Mret(%x)", c)
		}
		if after, priv, where := Sret(c); after != s || priv != sPriv || where != sWhere {
			t.Fatalf("Sret(%x)", c)
		}
	}
}

// R1: of registers that are all 0 each call answers what the chapter says of them.
func TestZeroes(t *testing.T) {
	if c, priv, where := Enter(api.Csrs{}, 0, 0, 0, false, 0); c != (api.Csrs{}) || priv != api.Machine || where != 0 {
		t.Errorf("Enter = %x, %d, %#x", c, priv, where)
	}
	if c, priv, where := Mret(api.Csrs{}); c != (api.Csrs{Status: 1 << mpie}) || priv != api.User || where != 0 {
		t.Errorf("Mret = %x, %d, %#x", c, priv, where)
	}
	if c, priv, where := Sret(api.Csrs{}); c != (api.Csrs{Status: 1 << spie}) || priv != api.User || where != 0 {
		t.Errorf("Sret = %x, %d, %#x", c, priv, where)
	}
	for _, priv := range privs {
		if n, ok := Pending(api.Csrs{}, priv); n != 0 || ok {
			t.Errorf("Pending = %d, %v", n, ok)
		}
	}
}
