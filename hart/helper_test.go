package hart

import (
	"fmt"
	"math"
	"slices"
	"strings"
	"testing"

	"drawbridge/api"
	"drawbridge/bus"
	"drawbridge/decode"
	"drawbridge/ram"
	"drawbridge/trap"
)

// ones is a number of all bits; base is where memory begins.
const (
	ones = math.MaxUint64
	base = api.RamBase
)

// Where traps lead in scenes.
const (
	machineTraps    = 0x1000
	supervisorTraps = 0x2000
)

// Bits of Status, by the names that RISC-V gives them; mpp is bits 12-11.
const (
	sie  = 1 << 1
	mie  = 1 << 3
	spie = 1 << 5
	mpie = 1 << 7
	spp  = 1 << 8
	mpp  = 3 << 11
	mprv = 1 << 17
	sum  = 1 << 18
	tvm  = 1 << 20
	tw   = 1 << 21
	tsr  = 1 << 22
)

// The privileges that there are.
var privs = []int{api.User, api.Supervisor, api.Machine}

// mac is the address of a board's Ethernet controller.
func mac() []byte { return []byte{0x52, 0x54, 0x00, 0x12, 0x34, 0x56} }

// neg answers the number -x.
func neg(x uint64) uint64 { return -x }

// wordOf answers the bits of an instruction, which there is.
func wordOf(i api.Ins) uint32 {
	w, ok := decode.Encode(i)
	if !ok {
		panic(fmt.Sprintf("there is no instruction %+v", i))
	}
	return w
}

// scene is a processor and its board.
type scene struct {
	h api.Hart
	b api.Board
}

// scened answers a processor at the beginning of memory of size bytes, where these instructions stand; no two of its registers are alike, and no interrupt is up.
func scened(size int, list ...api.Ins) scene {
	b, e := bus.New(size, mac())
	if e != api.OK {
		panic("there is no such board")
	}
	b.Clint.Cmp = ones
	s := scene{New(base), b}
	for i := 1; i < 32; i++ {
		s.h.X[i] = 0x0101010101010101 * uint64(i)
	}
	s.h.Csr.Mtvec, s.h.Csr.Stvec = machineTraps, supervisorTraps
	for i, ins := range list {
		s.put(base+4*uint64(i), 4, uint64(wordOf(ins)))
	}
	return s
}

// put writes into memory.
func (s *scene) put(at uint64, size int, x uint64) {
	r, ok := ram.Write(s.b.Ram, at, size, x)
	if !ok {
		panic("there is no such memory")
	}
	s.b.Ram = r
}

// get reads memory.
func (s scene) get(at uint64, size int) uint64 {
	x, ok := ram.Read(s.b.Ram, at, size)
	if !ok {
		panic("there is no such memory")
	}
	return x
}

// clone answers a scene like s that shares nothing with it.
func (s scene) clone() scene {
	s.h.X = slices.Clone(s.h.X)
	for _, list := range bytesIn(&s.b) {
		*list = slices.Clone(*list)
	}
	for _, list := range numbersIn(&s.b) {
		*list = slices.Clone(*list)
	}
	return s
}

// bytesIn and numbersIn answer a board's lists, so that they can be changed.
func bytesIn(b *api.Board) []*[]byte {
	return []*[]byte{&b.Ram.Data, &b.Uart.In, &b.Uart.Out, &b.Nic.Mac}
}

func numbersIn(b *api.Board) []*[]int {
	return []*[]int{&b.Plic.Prio, &b.Plic.Enable, &b.Plic.Threshold}
}

// step answers the scene behind a step.
func (s scene) step() scene {
	h, b := Step(s.h, s.b)
	return scene{h, b}
}

// becomes does a step, and holds what it answers against the scene when Cycle is one more, Pc four more, and what change does.
func (s scene) becomes(t *testing.T, name string, change func(s *scene)) {
	t.Helper()
	want := s.clone()
	want.h.Csr.Cycle++
	want.h.Pc += 4
	change(&want)
	if text := differ(s.step(), want); text != "" {
		t.Errorf("%s: %s", name, text)
	}
}

// traps holds that a step enters a trap, and does nothing else.
func (s scene) traps(t *testing.T, name string, cause int, tval uint64) {
	t.Helper()
	s.trapsWith(t, name, cause, tval, func(*scene) {})
}

// trapsWith holds that a step enters a trap, and does beside that what change does.
func (s scene) trapsWith(t *testing.T, name string, cause int, tval uint64, change func(s *scene)) {
	t.Helper()
	pc := s.h.Pc
	s.becomes(t, name, func(s *scene) {
		s.h.Csr, s.h.Priv, s.h.Pc = trap.Enter(s.h.Csr, s.h.Priv, pc, cause, false, tval)
		change(s)
	})
}

// nothing is what a step changes that does nothing but go on.
func nothing(*scene) {}

// same tells whether two scenes are the same; nil and empty lists are.
func same(a, b scene) bool { return differ(a, b) == "" }

// differ tells in which parts a scene is not what it should be; nothing, if there are none.
func differ(got, want scene) string {
	var parts []string
	note := func(name string, got, want any) {
		if g, w := fmt.Sprintf("%x", got), fmt.Sprintf("%x", want); g != w {
			parts = append(parts, fmt.Sprintf("%s is %s, not %s", name, short(g), short(w)))
		}
	}
	if len(got.h.X) != len(want.h.X) {
		note("the number of registers", len(got.h.X), len(want.h.X))
	} else {
		for i := range got.h.X {
			if got.h.X[i] != want.h.X[i] {
				note(fmt.Sprintf("x%d", i), got.h.X[i], want.h.X[i])
			}
		}
	}
	if got.h.Csr != want.h.Csr {
		parts = append(parts, fmt.Sprintf("Csr is %+v, not %+v", got.h.Csr, want.h.Csr))
	}
	note("Pc", got.h.Pc, want.h.Pc)
	note("Priv", got.h.Priv, want.h.Priv)
	note("Reserve", got.h.Reserve, want.h.Reserve)
	note("Held", got.h.Held, want.h.Held)
	note("Wait", got.h.Wait, want.h.Wait)
	return strings.Join(append(parts, differBoards(got.b, want.b)...), "; ")
}

// differBoards tells in which parts a board is not what it should be.
func differBoards(got, want api.Board) []string {
	var parts []string
	if !slices.Equal(got.Ram.Data, want.Ram.Data) {
		parts = append(parts, differBytes(got.Ram.Data, want.Ram.Data))
	}
	if got.Clint != want.Clint {
		parts = append(parts, fmt.Sprintf("Clint is %v, not %v", got.Clint, want.Clint))
	}
	// A %v tells nil and empty lists alike.
	for _, e := range []struct {
		name      string
		got, want any
	}{{"Plic", got.Plic, want.Plic}, {"Uart", got.Uart, want.Uart}, {"Nic", got.Nic, want.Nic}} {
		if g, w := fmt.Sprintf("%v", e.got), fmt.Sprintf("%v", e.want); g != w {
			parts = append(parts, fmt.Sprintf("%s is %s, not %s", e.name, short(g), short(w)))
		}
	}
	return parts
}

// differBytes tells the first byte of memory that is not what it should be.
func differBytes(got, want []byte) string {
	for i := range min(len(got), len(want)) {
		if got[i] != want[i] {
			return fmt.Sprintf("memory at %#x is %#x, not %#x", i, got[i], want[i])
		}
	}
	return fmt.Sprintf("memory has %d bytes, not %d", len(got), len(want))
}

// short cuts a text.
func short(text string) string {
	if len(text) > 200 {
		return text[:200] + ".."
	}
	return text
}

// chance answers numbers that no rule of the program would make, always the same ones.
func chance() func() uint64 {
	x := uint64(0x9e3779b97f4a7c15)
	return func() uint64 {
		x ^= x << 13
		x ^= x >> 7
		x ^= x << 17
		return x
	}
}

// The pages of paged: code and what else is asked for, three tables, and one more page.
const (
	pageOf   = 4096
	codePage = base
	topTable = base + 1*pageOf
	midTable = base + 2*pageOf
	lowTable = base + 3*pageOf
	lastPage = base + 4*pageOf
)

// The bits of a page's entry.
const (
	pteV = 1 << iota
	pteR
	pteW
	pteX
	pteU
	pteG
	pteA
	pteD
)

// entryOf answers an entry that names a page.
func entryOf(page uint64, bits uint64) uint64 { return page/pageOf<<10 | bits }

// paged answers a processor with pages on, at the address 0x1000: the low table tells where pages 0 to 511, from the address 0 on, and the last ones, are. Its page 1 is codePage, its page 2 lastPage, both the privilege's, to be read, written and run.
func paged(priv int, list ...api.Ins) scene {
	s := scened(5*pageOf, list...)
	s.put(topTable, 8, entryOf(midTable, pteV))
	s.put(midTable, 8, entryOf(lowTable, pteV))
	s.put(topTable+8*511, 8, entryOf(midTable, pteV))
	s.put(midTable+8*511, 8, entryOf(lowTable, pteV))
	s.h.Pc = 0x1000
	s.h.Priv = priv
	s.h.Csr.Satp = 8<<60 | topTable/pageOf
	s.page(1, codePage, pteR|pteW|pteX)
	s.page(2, lastPage, pteR|pteW|pteX)
	return s
}

// page has the low table's entry n name a page, with these bits besides V and, for a User, U.
func (s *scene) page(n uint64, page uint64, bits uint64) {
	if s.h.Priv == api.User {
		bits |= pteU
	}
	s.put(lowTable+8*n, 8, entryOf(page, bits|pteV))
}

// mark puts bits into the low table's entry n.
func (s *scene) mark(n uint64, bits uint64) {
	s.put(lowTable+8*n, 8, s.get(lowTable+8*n, 8)|bits)
}
