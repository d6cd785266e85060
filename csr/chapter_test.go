package csr

import (
	"math"
	"slices"
	"strconv"
	"strings"

	"drawbridge/api"
)

const ones = math.MaxUint64

// row is a row of the chapter's table, bit by bit. Bits are told as the chapter tells them: "1 3 17-22".
type row struct {
	num   int
	who   int                       // the privilege that reads it
	fixed bool                      // it is only read
	field func(c *api.Csrs) *uint64 // where it stands (nil: nowhere)
	seen  string                    // the bits that are read of it
	set   string                    // the bits that are read as 1 whatever stands there
	kept  string                    // the bits that are kept of what is written
	stay  bool                      // the others stay; else they are 0
	ours  bool                      // just those that Mideleg has are seen and kept
	none  func(x uint64) bool       // whether nothing of x is kept
	other func(x uint64) uint64     // what x is taken for
}

const all = "0-63"

// The fields of the registers.
func ofStatus(c *api.Csrs) *uint64   { return &c.Status }
func ofMedeleg(c *api.Csrs) *uint64  { return &c.Medeleg }
func ofMideleg(c *api.Csrs) *uint64  { return &c.Mideleg }
func ofMie(c *api.Csrs) *uint64      { return &c.Mie }
func ofMip(c *api.Csrs) *uint64      { return &c.Mip }
func ofMtvec(c *api.Csrs) *uint64    { return &c.Mtvec }
func ofMscratch(c *api.Csrs) *uint64 { return &c.Mscratch }
func ofMepc(c *api.Csrs) *uint64     { return &c.Mepc }
func ofMcause(c *api.Csrs) *uint64   { return &c.Mcause }
func ofMtval(c *api.Csrs) *uint64    { return &c.Mtval }
func ofStvec(c *api.Csrs) *uint64    { return &c.Stvec }
func ofSscratch(c *api.Csrs) *uint64 { return &c.Sscratch }
func ofSepc(c *api.Csrs) *uint64     { return &c.Sepc }
func ofScause(c *api.Csrs) *uint64   { return &c.Scause }
func ofStval(c *api.Csrs) *uint64    { return &c.Stval }
func ofSatp(c *api.Csrs) *uint64     { return &c.Satp }
func ofCycle(c *api.Csrs) *uint64    { return &c.Cycle }

// fields are all of them, in api's order, by their names.
var fields = []struct {
	name string
	of   func(c *api.Csrs) *uint64
	may  string // the bits that it may have
}{
	{"Status", ofStatus, "1 3 5 7 8 11 12 17-22"},
	{"Medeleg", ofMedeleg, "0-9 12 13 15"},
	{"Mideleg", ofMideleg, "1 5 9"},
	{"Mie", ofMie, "1 3 5 7 9 11"},
	{"Mip", ofMip, "1 3 5 7 9 11"},
	{"Mtvec", ofMtvec, "0 2-63"},
	{"Mscratch", ofMscratch, all},
	{"Mepc", ofMepc, "1-63"},
	{"Mcause", ofMcause, all},
	{"Mtval", ofMtval, all},
	{"Stvec", ofStvec, "0 2-63"},
	{"Sscratch", ofSscratch, all},
	{"Sepc", ofSepc, "1-63"},
	{"Scause", ofScause, all},
	{"Stval", ofStval, all},
	{"Satp", ofSatp, "0-59 63"},
	{"Cycle", ofCycle, all},
}

// table is the chapter's.
var table = []row{
	{num: 0x100, who: 1, field: ofStatus, seen: "1 5 8 18 19", set: "33", kept: "1 5 8 18 19", stay: true},
	{num: 0x104, who: 1, field: ofMie, seen: all, kept: "1 3 5 7 9 11", stay: true, ours: true},
	{num: 0x105, who: 1, field: ofStvec, seen: all, kept: "0 2-63"},
	{num: 0x140, who: 1, field: ofSscratch, seen: all, kept: all},
	{num: 0x141, who: 1, field: ofSepc, seen: all, kept: "1-63"},
	{num: 0x142, who: 1, field: ofScause, seen: all, kept: all},
	{num: 0x143, who: 1, field: ofStval, seen: all, kept: all},
	{num: 0x144, who: 1, field: ofMip, seen: all, kept: "1", stay: true, ours: true},
	{num: 0x180, who: 1, field: ofSatp, seen: all, kept: all, none: strangeMode},
	{num: 0x300, who: 3, field: ofStatus, seen: "0-31 36-63", set: "33 35", kept: "1 3 5 7 8 11 12 17-22", other: noPrivTwo},
	{num: 0x301, who: 3, set: "0 2 8 12 18 20 63"},
	{num: 0x302, who: 3, field: ofMedeleg, seen: all, kept: "0-9 12 13 15"},
	{num: 0x303, who: 3, field: ofMideleg, seen: all, kept: "1 5 9"},
	{num: 0x304, who: 3, field: ofMie, seen: all, kept: "1 3 5 7 9 11"},
	{num: 0x305, who: 3, field: ofMtvec, seen: all, kept: "0 2-63"},
	{num: 0x340, who: 3, field: ofMscratch, seen: all, kept: all},
	{num: 0x341, who: 3, field: ofMepc, seen: all, kept: "1-63"},
	{num: 0x342, who: 3, field: ofMcause, seen: all, kept: all},
	{num: 0x343, who: 3, field: ofMtval, seen: all, kept: all},
	{num: 0x344, who: 3, field: ofMip, seen: all, kept: "1 5 9", stay: true},
	{num: 0xb00, who: 3, field: ofCycle, seen: all, kept: all},
	{num: 0xc00, who: 0, field: ofCycle, seen: all, fixed: true},
	{num: 0xf11, who: 3, fixed: true},
	{num: 0xf12, who: 3, fixed: true},
	{num: 0xf13, who: 3, fixed: true},
	{num: 0xf14, who: 3, fixed: true},
}

// strangeMode tells whether bits 63-60 of x are neither 0 nor 8.
func strangeMode(x uint64) bool { return x/(1<<60) != 0 && x/(1<<60) != 8 }

// noPrivTwo answers x, with bits 12-11 as 0, if they are 2.
func noPrivTwo(x uint64) uint64 {
	if !has(x, 11) && has(x, 12) {
		x -= 1 << 12
	}
	return x
}

// has tells whether bit i of x is 1.
func has(x uint64, i int) bool { return x>>i&1 == 1 }

// places answers the bits that a text tells, each of 64.
func places(text string) [64]bool {
	var set [64]bool
	for _, part := range strings.Fields(text) {
		from, to, ranged := strings.Cut(part, "-")
		if !ranged {
			to = from
		}
		first, _ := strconv.Atoi(from)
		last, _ := strconv.Atoi(to)
		for i := first; i <= last; i++ {
			set[i] = true
		}
	}
	return set
}

// number answers the number whose bits are these.
func number(bit func(i int) bool) uint64 {
	x := uint64(0)
	for i := range 64 {
		if bit(i) {
			x += 1 << i
		}
	}
	return x
}

// rowOf answers the row of num, and whether it is there for one with priv.
func rowOf(c api.Csrs, num int, priv int) (row, bool) {
	i := slices.IndexFunc(table, func(r row) bool { return r.num == num })
	if i < 0 || priv < table[i].who || num == 0x180 && priv == 1 && has(c.Status, 20) {
		return row{}, false
	}
	return table[i], true
}

// readOf answers what Read has to answer.
func readOf(c api.Csrs, num int, priv int) (uint64, bool) {
	r, ok := rowOf(c, num, priv)
	if !ok {
		return 0, false
	}
	field := uint64(0)
	if r.field != nil {
		field = *r.field(&c)
	}
	seen, set := places(r.seen), places(r.set)
	return number(func(i int) bool {
		return set[i] || seen[i] && has(field, i) && (!r.ours || has(c.Mideleg, i))
	}), true
}

// writeOf answers what Write has to answer.
func writeOf(c api.Csrs, num int, priv int, x uint64) (api.Csrs, bool) {
	r, ok := rowOf(c, num, priv)
	if !ok || r.fixed {
		return c, false
	}
	if r.field == nil || r.none != nil && r.none(x) {
		return c, true
	}
	if r.other != nil {
		x = r.other(x)
	}
	old, kept := *r.field(&c), places(r.kept)
	*r.field(&c) = number(func(i int) bool {
		if kept[i] && (!r.ours || has(c.Mideleg, i)) {
			return has(x, i)
		}
		return r.stay && has(old, i)
	})
	return c, true
}

// checkOf answers what Check has to answer.
func checkOf(c api.Csrs) bool {
	for _, f := range fields {
		may := places(f.may)
		for i := range 64 {
			if has(*f.of(&c), i) && !may[i] {
				return false
			}
		}
	}
	return noPrivTwo(c.Status) == c.Status
}

// chance answers numbers that no rule of the program would make, always the same ones.
func chance() func() uint64 {
	x := uint64(0x9e3779b97f4a7c15)
	return func() uint64 {
		x ^= x << 13
		x ^= x >> 7
		x ^= x << 17
		return x
	}
}

// numbers are those at which a bit is easily lost: each bit alone, each one missing, ends, and as chance would have it.
func numbers() []uint64 {
	xs := []uint64{0, ones, 0x0102030405060708, 0x8899aabbccddeeff, 0xaaaaaaaaaaaaaaaa, 0x5555555555555555}
	for i := range 64 {
		xs = append(xs, 1<<i, ones-1<<i, 1<<i-1)
	}
	for i := range uint64(4) { // of Status, with bits 12-11
		xs = append(xs, i<<11, ones-3<<11+i<<11, 0x7e01aa+i<<11)
	}
	for i := range uint64(16) { // of Satp, with bits 63-60
		xs = append(xs, i<<60, i<<60+1, i<<60+1<<60-1)
	}
	next := chance()
	for range 40 {
		xs = append(xs, next())
	}
	return xs
}

// filled answers registers that have each what next answers, as far as it may be there, if they are to be right.
func filled(next func() uint64, right bool) api.Csrs {
	c := api.Csrs{}
	for _, f := range fields {
		x, may := next(), places(f.may)
		*f.of(&c) = number(func(i int) bool { return has(x, i) && (may[i] || !right) })
	}
	if right {
		c.Status = noPrivTwo(c.Status)
	}
	return c
}

// rightOnes are registers that may be: none set, all set, and by chance, so that each of Mideleg's bits and Status' bit 20 is 0 and 1 among them.
func rightOnes() []api.Csrs {
	cs := []api.Csrs{{}, filled(func() uint64 { return ones }, true)}
	next := chance()
	for range 30 {
		cs = append(cs, filled(next, true))
	}
	return cs
}

// wrongOnes are registers that may not be.
func wrongOnes() []api.Csrs {
	cs := []api.Csrs{filled(func() uint64 { return ones }, false)}
	next := chance()
	for range 10 {
		cs = append(cs, filled(next, false))
	}
	return cs
}

// The privileges that there are, and others: what is more than one reads what that one reads.
var privs = []int{math.MinInt, math.MinInt32, -3, -1, 0, 1, 2, 3, 4, 5, 7, 1 << 32, math.MaxInt}
