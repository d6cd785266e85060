package csr

import (
	"errors"
	"math"
	"slices"
	"testing"

	"drawbridge/api"
)

// each calls f with each register that there is and each privilege.
func each(f func(num int, priv int)) {
	for _, r := range table {
		for _, priv := range privs {
			f(r.num, priv)
		}
	}
}

// P5.1: the chapter's example.
func TestExample(t *testing.T) {
	c, ok := Write(api.Csrs{}, 0x300, api.Machine, ones)
	if !ok || c != (api.Csrs{Status: 0x007e19aa}) {
		t.Errorf("Write = %x, %v", c, ok)
	}
	if x, ok := Read(c, 0x300, api.Machine); !ok || x != 0xa007e19aa {
		t.Errorf("Read = %#x, %v", x, ok)
	}
}

// P5.1: what is read of a register that holds a number of its own each.
func TestReadExamples(t *testing.T) {
	c := api.Csrs{
		Status: 0x7e19aa, Medeleg: 0xb3ff, Mideleg: 0x202, Mie: 0xaa2, Mip: 0x8a2,
		Mtvec: 0x101, Mscratch: 0x202, Mepc: 0x304, Mcause: 0x405, Mtval: 0x506,
		Stvec: 0x601, Sscratch: 0x708, Sepc: 0x80a, Scause: 0x90b, Stval: 0xa0c,
		Satp: 8<<60 + 0xb0d, Cycle: 0xc0e,
	}
	for num, want := range map[int]uint64{
		0x300: 0xa007e19aa, 0x100: 0x2000c0122, 0x301: 0x8000000000141105,
		0x302: 0xb3ff, 0x303: 0x202, 0x304: 0xaa2, 0x344: 0x8a2, 0x104: 0x202, 0x144: 0x002,
		0x305: 0x101, 0x340: 0x202, 0x341: 0x304, 0x342: 0x405, 0x343: 0x506,
		0x105: 0x601, 0x140: 0x708, 0x141: 0x80a, 0x142: 0x90b, 0x143: 0xa0c,
		0x180: 0x8000000000000b0d, 0xb00: 0xc0e, 0xc00: 0xc0e,
		0xf11: 0, 0xf12: 0, 0xf13: 0, 0xf14: 0,
	} {
		if x, ok := Read(c, num, api.Machine); !ok || x != want {
			t.Errorf("Read(%#x) = %#x, %v, not %#x", num, x, ok, want)
		}
	}
}

// P5.1: what is left where all ones, or noughts, are written.
func TestWriteExamples(t *testing.T) {
	full := api.Csrs{
		Status: 0x7e19aa, Medeleg: 0xb3ff, Mideleg: 0x22, Mie: 0xaaa, Mip: 0xaaa,
		Mtvec: ones - 2, Mscratch: ones, Mepc: ones - 1, Mcause: ones, Mtval: ones,
		Stvec: ones - 2, Sscratch: ones, Sepc: ones - 1, Scause: ones, Stval: ones,
		Satp: 1<<60 - 1, Cycle: ones,
	}
	for _, w := range []struct {
		from api.Csrs
		num  int
		x    uint64
		of   func(*api.Csrs) *uint64
		want uint64
	}{
		{api.Csrs{}, 0x300, ones, ofStatus, 0x7e19aa},
		{full, 0x300, 0, ofStatus, 0},
		{api.Csrs{}, 0x300, 2 << 11, ofStatus, 0},
		{full, 0x300, 2<<11 + 0x22, ofStatus, 0x22},
		{api.Csrs{}, 0x300, 1 << 11, ofStatus, 1 << 11},
		{api.Csrs{}, 0x300, 3 << 11, ofStatus, 3 << 11},
		{api.Csrs{}, 0x100, ones, ofStatus, 0xc0122},
		{full, 0x100, 0, ofStatus, 0x721888},
		{api.Csrs{}, 0x302, ones, ofMedeleg, 0xb3ff},
		{api.Csrs{}, 0x303, ones, ofMideleg, 0x222},
		{api.Csrs{}, 0x304, ones, ofMie, 0xaaa},
		{api.Csrs{}, 0x344, ones, ofMip, 0x222},
		{full, 0x344, 0, ofMip, 0x888},
		{api.Csrs{}, 0x104, ones, ofMie, 0},
		{api.Csrs{Mideleg: 0x202}, 0x104, ones, ofMie, 0x202},
		{full, 0x104, 0, ofMie, 0xa88},
		{api.Csrs{}, 0x144, ones, ofMip, 0},
		{api.Csrs{Mideleg: 0x222}, 0x144, ones, ofMip, 0x2},
		{api.Csrs{Mideleg: 0x220}, 0x144, ones, ofMip, 0},
		{full, 0x144, 0, ofMip, 0xaa8},
		{api.Csrs{}, 0x305, ones, ofMtvec, 0xfffffffffffffffd},
		{api.Csrs{}, 0x105, ones, ofStvec, 0xfffffffffffffffd},
		{api.Csrs{}, 0x340, ones, ofMscratch, ones},
		{api.Csrs{}, 0x140, ones, ofSscratch, ones},
		{api.Csrs{}, 0x341, ones, ofMepc, 0xfffffffffffffffe},
		{api.Csrs{}, 0x141, ones, ofSepc, 0xfffffffffffffffe},
		{api.Csrs{}, 0x342, ones, ofMcause, ones},
		{api.Csrs{}, 0x142, ones, ofScause, ones},
		{api.Csrs{}, 0x343, ones, ofMtval, ones},
		{api.Csrs{}, 0x143, ones, ofStval, ones},
		{api.Csrs{}, 0x180, 0x8fffffffffffffff, ofSatp, 0x8fffffffffffffff},
		{full, 0x180, 0x0fedcba987654321, ofSatp, 0x0fedcba987654321},
		{full, 0x180, 0x9000000000000001, ofSatp, 1<<60 - 1},
		{full, 0x180, ones, ofSatp, 1<<60 - 1},
		{api.Csrs{}, 0xb00, ones, ofCycle, ones},
	} {
		want := w.from
		*w.of(&want) = w.want
		if got, ok := Write(w.from, w.num, api.Machine, w.x); !ok || got != want {
			t.Errorf("Write(%#x, %#x) = %x, %v, not %x", w.num, w.x, got, ok, want)
		}
	}
	if got, ok := Write(full, 0x301, api.Machine, 0); !ok || got != full {
		t.Errorf("Write(0x301) = %x, %v", got, ok)
	}
}

// P5.1: Read of each register, by each privilege, of registers that may be and of those that may not.
func TestRead(t *testing.T) {
	for _, c := range slices.Concat(rightOnes(), wrongOnes()) {
		each(func(num int, priv int) {
			x, ok := Read(c, num, priv)
			if want, may := readOf(c, num, priv); x != want || ok != may {
				t.Errorf("Read(%x, %#x, %d) = %#x, %v, not %#x, %v", c, num, priv, x, ok, want, may)
			}
		})
	}
}

// P5.1: Write of each register, by each privilege, of each number.
func TestWrite(t *testing.T) {
	xs := numbers()
	for _, c := range slices.Concat(rightOnes(), wrongOnes()) {
		each(func(num int, priv int) {
			for _, x := range xs {
				got, ok := Write(c, num, priv, x)
				if want, may := writeOf(c, num, priv, x); got != want || ok != may {
					t.Fatalf("Write(%x, %#x, %d, %#x) = %x, %v, not %x, %v", c, num, priv, x, got, ok, want, may)
				}
			}
		})
	}
}

// P5.1: who reads and writes what: the least privilege that does, and the one below it.
func TestWhoMay(t *testing.T) {
	who := map[int]int{
		0x100: 1, 0x104: 1, 0x105: 1, 0x140: 1, 0x141: 1, 0x142: 1, 0x143: 1, 0x144: 1, 0x180: 1,
		0x300: 3, 0x301: 3, 0x302: 3, 0x303: 3, 0x304: 3, 0x305: 3, 0x340: 3, 0x341: 3, 0x342: 3, 0x343: 3, 0x344: 3,
		0xb00: 3, 0xc00: 0, 0xf11: 3, 0xf12: 3, 0xf13: 3, 0xf14: 3,
	}
	c := filled(func() uint64 { return ones }, true)
	c.Status = 0
	for num, least := range who {
		for _, priv := range []int{api.User, api.Supervisor, api.Machine} {
			x, ok := Read(c, num, priv)
			if ok != (priv >= least) || !ok && x != 0 {
				t.Errorf("Read(%#x, %d) = %#x, %v", num, priv, x, ok)
			}
			after, ok := Write(c, num, priv, 0)
			if ok != (priv >= least && num < 0xc00) || !ok && after != c {
				t.Errorf("Write(%#x, %d) = %x, %v", num, priv, after, ok)
			}
		}
	}
}

// P5.1: numbers that there are not, near those that there are and far from them, are refused, whoever asks.
func TestNoSuchRegister(t *testing.T) {
	nums := []int{math.MinInt, math.MinInt32, 1<<32 + 0x300, 1<<62 + 0x180, math.MaxInt32, math.MaxInt, -0x300, -1 << 12, 0x300 - 1<<12}
	for num := -0x1100; num < 0x2100; num++ {
		nums = append(nums, num)
	}
	c := filled(func() uint64 { return ones }, true)
	c.Status = 0
	some := 0
	for _, num := range nums {
		if slices.ContainsFunc(table, func(r row) bool { return r.num == num }) {
			some++
			continue
		}
		for _, priv := range privs {
			if x, ok := Read(c, num, priv); ok || x != 0 {
				t.Errorf("Read(%#x, %d) = %#x, %v", num, priv, x, ok)
			}
			if after, ok := Write(c, num, priv, 0); ok || after != c {
				t.Errorf("Write(%#x, %d) = %x, %v", num, priv, after, ok)
			}
		}
	}
	if some != 26 {
		t.Errorf("%d registers", some)
	}
}

// P5.1: what is only read is not written, even by the Machine, and is read all the same.
func TestOnlyRead(t *testing.T) {
	c := api.Csrs{Cycle: 77}
	for num, want := range map[int]uint64{0xc00: 77, 0xf11: 0, 0xf12: 0, 0xf13: 0, 0xf14: 0} {
		for _, x := range []uint64{0, 77, ones} {
			if after, ok := Write(c, num, api.Machine, x); ok || after != c {
				t.Errorf("Write(%#x, %d) = %x, %v", num, x, after, ok)
			}
		}
		if x, ok := Read(c, num, api.Machine); !ok || x != want {
			t.Errorf("Read(%#x) = %d, %v", num, x, ok)
		}
	}
	if x, ok := Read(c, 0xc00, api.User); !ok || x != 77 {
		t.Errorf("Read by a User = %d, %v", x, ok)
	}
}

// P5.1: Satp is hidden from the Supervisor alone, by Status' bit 20 alone.
func TestSatpHidden(t *testing.T) {
	const satp = 8<<60 + 5
	for i := range 64 {
		c := api.Csrs{Status: 1 << i, Satp: satp}
		x, ok := Read(c, 0x180, api.Supervisor)
		if ok != (i != 20) || ok && x != satp || !ok && x != 0 {
			t.Errorf("bit %d: Read = %#x, %v", i, x, ok)
		}
		after, ok := Write(c, 0x180, api.Supervisor, 7)
		if ok != (i != 20) || ok && after.Satp != 7 || !ok && after != c {
			t.Errorf("bit %d: Write = %x, %v", i, after, ok)
		}
		if x, ok := Read(c, 0x180, api.Machine); !ok || x != satp {
			t.Errorf("bit %d: Read by the Machine = %#x, %v", i, x, ok)
		}
		if after, ok := Write(c, 0x180, api.Machine, 7); !ok || after.Satp != 7 {
			t.Errorf("bit %d: Write by the Machine = %x, %v", i, after, ok)
		}
	}
	hidden := api.Csrs{Status: 1 << 20}
	for _, num := range []int{0x100, 0x104, 0x105, 0x140, 0x141, 0x142, 0x143, 0x144} {
		if _, ok := Read(hidden, num, api.Supervisor); !ok {
			t.Errorf("Read(%#x) is hidden, too", num)
		}
	}
}

// P5.1: of Satp all or nothing is kept, by bits 63-60.
func TestSatpModes(t *testing.T) {
	for mode := range uint64(16) {
		for _, rest := range []uint64{0, 1, 0x0123456789abcde, 1<<60 - 1} {
			for _, old := range []uint64{0, 8<<60 + 3} {
				want := old
				if mode == 0 || mode == 8 {
					want = mode<<60 + rest
				}
				after, ok := Write(api.Csrs{Satp: old}, 0x180, api.Supervisor, mode<<60+rest)
				if !ok || after != (api.Csrs{Satp: want}) {
					t.Errorf("Write of %#x = %x, %v", mode<<60+rest, after, ok)
				}
			}
		}
	}
}

// P5.1: the Supervisor's views of Mie and Mip, for each that Mideleg may be.
func TestSupervisorViews(t *testing.T) {
	bits := []int{1, 5, 9}
	for set := range 8 {
		ours := uint64(0)
		for n, i := range bits {
			ours |= uint64(set>>n&1) << i
		}
		c := api.Csrs{Mideleg: ours, Mie: 0xaaa, Mip: 0xaaa}
		for _, num := range []int{0x104, 0x144} {
			if x, ok := Read(c, num, api.Supervisor); !ok || x != ours {
				t.Errorf("Mideleg %#x: Read(%#x) = %#x, %v", ours, num, x, ok)
			}
		}
		want := c
		want.Mie = 0xaaa - ours
		if after, ok := Write(c, 0x104, api.Supervisor, 0); !ok || after != want {
			t.Errorf("Mideleg %#x: Write of Mie = %x, %v", ours, after, ok)
		}
		want = c
		want.Mip = 0xaaa - ours&2
		if after, ok := Write(c, 0x144, api.Supervisor, 0); !ok || after != want {
			t.Errorf("Mideleg %#x: Write of Mip = %x, %v", ours, after, ok)
		}
	}
}

// P5.1: why there is no register: each reason is found by errors.Is, and told beside what was asked for.
func TestWhyNone(t *testing.T) {
	for _, w := range []struct {
		num, priv int
		want      error
		told      string
	}{
		{0x999, api.Machine, errNone, "register 2457, privilege 3: there is no such register"},
		{-1, api.Machine, errNone, "register -1, privilege 3: there is no such register"},
		{0x300, api.Supervisor, errNone, "register 768, privilege 1: there is no such register"},
		{0xf11, api.User, errNone, "register 3857, privilege 0: there is no such register"},
		{0x180, api.Supervisor, errNone, "register 384, privilege 1: there is no such register"},
		{0xc00, api.User, errOnlyRead, "register 3072, privilege 0: it is only read"},
		{0xf14, api.Machine, errOnlyRead, "register 3860, privilege 3: it is only read"},
	} {
		_, err := state{Status: 1 << 20}.find(w.num, w.priv)
		if !errors.Is(err, w.want) || errors.Is(err, errNone) == errors.Is(err, errOnlyRead) {
			t.Errorf("%#x by %d: %v", w.num, w.priv, err)
		} else if err.Error() != w.told {
			t.Errorf("%#x by %d is told as %q", w.num, w.priv, err.Error())
		}
	}
	if _, err := (state{}).find(0x180, api.Supervisor); err != nil {
		t.Error(err)
	}
}

// P5.2: registers that may be, each bit that each may have alone, and each that it may not.
func TestCheckBits(t *testing.T) {
	for _, f := range fields {
		may := places(f.may)
		for i := range 64 {
			c := api.Csrs{}
			*f.of(&c) = 1 << i
			want := may[i] && !(f.name == "Status" && i == 12)
			if Check(c) != want {
				t.Errorf("Check of %s with bit %d = %v", f.name, i, !want)
			}
		}
	}
}

// P5.2: one wrong bit beside all that is right.
func TestCheckAmongRight(t *testing.T) {
	for _, right := range rightOnes() {
		if !Check(right) {
			t.Errorf("Check(%x) = false", right)
		}
		for _, f := range fields {
			for i := range 64 {
				c := right
				*f.of(&c) ^= 1 << i
				if got, want := Check(c), checkOf(c); got != want {
					t.Errorf("Check(%x) = %v: %s with bit %d the other way", c, got, f.name, i)
				}
			}
		}
	}
	for _, wrong := range wrongOnes() {
		if Check(wrong) {
			t.Errorf("Check(%x) = true", wrong)
		}
	}
}

// P5.2: what is told by several bits: Status' 12-11, Satp's 63-60.
func TestCheckSeveralBits(t *testing.T) {
	for from := range uint64(4) {
		for _, rest := range []uint64{0, 0x7e01aa} {
			c := api.Csrs{Status: from<<11 + rest}
			if Check(c) != (from != 2) {
				t.Errorf("Check of Status %#x = %v", c.Status, from == 2)
			}
		}
	}
	for mode := range uint64(16) {
		for _, rest := range []uint64{0, 1<<60 - 1} {
			c := api.Csrs{Satp: mode<<60 + rest}
			if Check(c) != (mode == 0 || mode == 8) {
				t.Errorf("Check of Satp %#x", c.Satp)
			}
		}
	}
}

// P5.3: what is written is read, but for what is not kept, and is kept again as it is.
func TestWrittenIsRead(t *testing.T) {
	for _, c := range rightOnes() {
		each(func(num int, priv int) {
			for _, x := range numbers() {
				first, ok := Write(c, num, priv, x)
				if !ok {
					continue
				}
				read, _ := Read(first, num, priv)
				if want, _ := readOf(first, num, priv); read != want {
					t.Fatalf("%#x: %#x is read, not %#x", num, read, want)
				}
				if again, ok := Write(first, num, priv, read); !ok || again != first {
					t.Fatalf("%#x: %#x is kept, and then not as it is: %x, %x", num, x, first, again)
				}
			}
		})
	}
}

// P5.3: of registers that keep all, what is written is read, whole.
func TestAllIsKept(t *testing.T) {
	for _, num := range []int{0x340, 0x140, 0x342, 0x142, 0x343, 0x143, 0xb00} {
		for _, x := range numbers() {
			c, ok := Write(api.Csrs{}, num, api.Machine, x)
			if !ok {
				t.Fatalf("Write(%#x)", num)
			}
			if got, ok := Read(c, num, api.Machine); !ok || got != x {
				t.Errorf("Read(%#x) = %#x, %v, not %#x", num, got, ok, x)
			}
		}
	}
}

// P5.3: registers that may be stay so, whatever is written, one behind the other.
func TestRightStaysRight(t *testing.T) {
	next := chance()
	for _, c := range rightOnes() {
		each(func(num int, priv int) {
			for _, x := range numbers() {
				if after, _ := Write(c, num, priv, x); !Check(after) {
					t.Fatalf("Write(%x, %#x, %d, %#x) = %x", c, num, priv, x, after)
				}
			}
		})
		for range 500 {
			r := table[next()%uint64(len(table))]
			c, _ = Write(c, r.num, int(next()%4), next())
			if !Check(c) {
				t.Fatalf("Write(%#x) led to %x", r.num, c)
			}
		}
	}
}

// R1, R4: no call panics, and none knows of another: the same call answers the same.
func TestSameAgain(t *testing.T) {
	next := chance()
	for range 20000 {
		c, num, priv, x := filled(next, false), int(next()), int(next()), next()
		if next()%2 == 0 {
			num, priv = num&0xfff, priv&7
		}
		a, aOk := Read(c, num, priv)
		b, bOk := Write(c, num, priv, x)
		if aa, ok := Read(c, num, priv); aa != a || ok != aOk {
			t.Fatalf("Read(%x, %#x, %d)", c, num, priv)
		}
		if bb, ok := Write(c, num, priv, x); bb != b || ok != bOk {
			t.Fatalf("Write(%x, %#x, %d, %#x)", c, num, priv, x)
		}
		if Check(c) != checkOf(c) {
			t.Fatalf("Check(%x)", c)
		}
	}
}
