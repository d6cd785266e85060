package hart

import (
	"encoding/binary"
	"testing"

	"drawbridge/api"
	"drawbridge/csr"
	"drawbridge/decode"
	"drawbridge/rvc"
)

// one answers one of a list.
func one[T any](next func() uint64, list ...T) T { return list[next()%uint64(len(list))] }

// often tells whether something is so, one time out of n.
func often(next func() uint64, n uint64) bool { return next()%n == 0 }

// addresses are those near which something ends or begins.
var addresses = []uint64{
	0, 0x1000, 0x1010, 0x1ff8, 0x2000, 0x2ff8, 0x3000, 0x3010, 0x4000, 0x5000, base, base + 16, base + 64, base + 128, base + 4096,
	lowTable, lowTable + 8, lowTable + 24, lastPage, base + 5*pageOf, 0x2000000, 0x2004000, 0x200bff8, 0xc000004, 0xc001000, 0xc002000, 0xc200004, 0xc201004,
	0x10000000, 0x10000001, 0x10000005, 0x10001000, 0x10001004, 0x1000100c, 0x10001034, 1 << 38, 1 << 63, ones - 4095, ones - 7, ones,
}

// inside are addresses of memory, without pages and with them.
var inside = []uint64{base + 64, base + 128, base + 4096, lowTable, lastPage, 0x1010, 0x1ff0, 0x2000, 0x2ff8, 0x3000, 0x4000}

// anyNumber answers what a register may hold.
func anyNumber(next func() uint64) uint64 {
	switch next() % 8 {
	case 0:
		return next()
	case 1:
		return next() % 16
	case 2:
		return ones - next()%16
	case 3:
		return one(next, addresses...) + next()%8
	case 4:
		return one(next, addresses...)
	}
	return one(next, inside...) + next()%8*8
}

// The words whose all bits are looked at, and control registers' numbers that there are.
var (
	systems = []uint64{0x00000073, 0x00100073, 0x10200073, 0x30200073, 0x10500073, 0x12000073, 0x120a8073}
	csrNums = []uint64{0x300, 0x100, 0x304, 0x104, 0x344, 0x144, 0x302, 0x303, 0x305, 0x105, 0x180, 0xc00, 0xb00, 0x340, 0x341, 0x141, 0xf11, 0x301, 0x342, 0x143}
)

// anyWord answers the bits of an instruction, or such as are none: bits 6-0 of one that there is, and the others by chance, as far as most of them are not looked at whole.
func anyWord(next func() uint64) uint64 {
	x := next() & 0xffffffff
	with := func(op uint64) uint64 { return x&^0x7f | op }
	switch next() % 16 {
	case 0:
		return one(next, x, x&0xffff)
	case 1:
		return x & 0xffff
	case 2:
		return one(next, systems...)
	case 3:
		return with(one(next, uint64(0x37), 0x17, 0x6f, 0x67, 0x63, 0x0f))
	case 4:
		return with(one(next, uint64(0x13), 0x1b))
	case 5:
		return with(one(next, uint64(0x33), 0x3b)) &^ 0xbe000000
	case 6, 7, 8:
		// A small immediate, which is a multiple mostly, leaves an address near where its register leads.
		return with(0x03) & one(next, uint64(0x01ffffff), 0x018fffff, 0x018fffff)
	case 9, 10, 11:
		return with(0x23) & one(next, uint64(0x01ffffff), 0x01fffc7f, 0x01fffc7f)
	case 12, 13:
		x = with(0x2f)&0x01ff8fff | (2+next()%2)<<12
		if f := one(next, uint64(0), 1, lr, lr, sc, sc, 4, 8, 12, 16, 20, 24, 28); f != lr {
			return x | f<<27
		}
		return x&^(31<<20) | lr<<27
	case 14:
		return one(next, systems...)
	}
	return with(0x73)&0xfffff | one(next, csrNums...)<<20
}

// wild answers a scene by chance, with pages or without.
func wild(next func() uint64) scene {
	priv := one(next, privs...)
	s := paged(priv)
	fill(s.b.Ram.Data[:256], next)
	fill(s.b.Ram.Data[0xff8:0x1000], next)
	for n := range uint64(5) {
		if often(next, 3) {
			s.page(n, one(next, uint64(base), lastPage, lowTable, 0x10000000, 0x2004000, base+8*pageOf), one(next, uint64(pteR), pteR|pteW, pteR|pteW|pteX, pteX, 0)|one(next, 0, uint64(pteA), pteA|pteD))
		}
		if often(next, 4) {
			s.put(lowTable+8*n, 8, s.get(lowTable+8*n, 8)^pteU)
		}
	}
	for i := 1; i < 32; i++ {
		s.h.X[i] = anyNumber(next)
	}
	s.h.Pc = one(next, uint64(0x1000), 0x1000, 0x1000, 0x1ffc, 0x1ffe) + next()%64/4*4
	if priv == api.Machine || often(next, 4) {
		s.h.Csr.Satp = one(next, 0, s.h.Csr.Satp)
		s.h.Pc = base + next()%256/4*4
	}
	s.h.Held, s.h.Reserve, s.h.Wait = often(next, 2), s.h.X[1+next()%31], often(next, 8)
	registers(next, &s.h.Csr)
	devicesOf(next, &s.b)
	return s
}

// fill writes words over bytes.
func fill(b []byte, next func() uint64) {
	for i := 0; i+4 <= len(b); i += 4 {
		binary.LittleEndian.PutUint32(b[i:], uint32(anyWord(next)))
	}
}

// registers fills control registers by chance, such as may be.
func registers(next func() uint64, c *api.Csrs) {
	for _, num := range []int{0x300, 0x302, 0x303, 0x304, 0x344, 0x340, 0x341, 0x141, 0xb00} {
		if often(next, 2) {
			*c, _ = csr.Write(*c, num, api.Machine, next())
		}
	}
	c.Mtvec, c.Stvec = base+next()%64*4, one(next, uint64(0x1000), 0x1000, base, 0x2000)+next()%64*4+next()%2
	if often(next, 2) {
		c.Mie = 0
	}
}

// devicesOf fills devices by chance, such as may be.
func devicesOf(next func() uint64, b *api.Board) {
	b.Clint.Soft = often(next, 4)
	b.Clint.Cmp = one(next, uint64(ones), 5)
	b.Clint.Time = next() % 8
	if often(next, 2) {
		b.Uart.In, b.Uart.Ie = []byte{byte(next()), byte(next())}, int(next()%4)
		b.Plic.Prio = []int{0, int(next() % 8), int(next() % 8)}
		b.Plic.Enable = []int{int(next() % 4 * 2), int(next() % 4 * 2)}
		b.Nic.Cause, b.Nic.Mask = int(next()%16), int(next()%16)
	}
}

// held holds a step against the chapter, and answers what is behind it.
func held(t *testing.T, s scene) scene {
	t.Helper()
	want, got := stepOf(s), s.step()
	if text := differ(got, want); text != "" {
		low, _ := s.clone().peek()
		t.Fatalf("Pc %#x, priv %d, word %#x: %s", s.h.Pc, s.h.Priv, low, text)
	}
	return got
}

// peek answers the bits of the instruction at Pc, if they can be fetched; nothing of that is seen in s.
func (s scene) peek() (uint64, bool) {
	low, f := s.twoOf(s.h.Pc)
	if f != nil || low%4 != 3 {
		return low, f == nil
	}
	high, f := s.twoOf(s.h.Pc + 2)
	return low + high<<16, f == nil
}

// P14.2 to P14.7: many scenes by chance, one step each: all is what the chapter makes of it; each cause comes up.
func TestManyScenes(t *testing.T) {
	next := chance()
	causes := map[uint64]int{}
	for range 20000 {
		s := held(t, wild(next))
		causes[s.h.Csr.Mcause]++
		causes[s.h.Csr.Scause]++
	}
	for _, cause := range []uint64{1, 2, 3, 4, 5, 6, 7, 8, 9, 11, 12, 13, 15, 1<<63 | 1, 1<<63 | 3, 1<<63 | 5, 1<<63 | 7, 1<<63 | 9, 1<<63 | 11} {
		if causes[cause] < 5 {
			t.Errorf("cause %#x came up %d times", cause, causes[cause])
		}
	}
	if causes[0] == 0 || causes[10]+causes[14] > 0 {
		t.Errorf("causes %v", causes)
	}
}

// P14.8, R3: chains of steps: a processor that may be stays so, memory changes but by stores and by marks of pages, and what was answered earlier stays.
func TestManySteps(t *testing.T) {
	next := chance()
	for range 150 {
		s := wild(next)
		answers, told := []scene{s}, []scene{s.clone()}
		for range 60 {
			before := s.clone()
			s = held(t, s)
			if !Check(s.h) {
				t.Fatalf("it may not be any more: %+v", s.h)
			}
			memoryMay(t, before, s)
			answers, told = append(answers, s), append(told, s.clone())
		}
		for i := range answers {
			if text := differ(answers[i], told[i]); text != "" {
				t.Fatalf("answer %d is another now: %s", i, text)
			}
		}
	}
}

// memoryMay holds that memory changed but by marks of entries, and by a store of at most eight bytes.
func memoryMay(t *testing.T, before, after scene) {
	t.Helper()
	var stored []int
	for i, was := range before.b.Ram.Data {
		is := after.b.Ram.Data[i]
		if is != was && (i%8 != 0 || is != was|is&(pteA|pteD) || before.h.Csr.Satp == 0) {
			stored = append(stored, i)
		}
	}
	if len(stored) == 0 {
		return
	}
	if stored[0]/8 != stored[len(stored)-1]/8 {
		t.Fatalf("bytes %v were changed", stored)
	}
	if before.h.Csr.Mip&before.h.Csr.Mie != 0 || after.h.Csr.Mip&after.h.Csr.Mie != 0 {
		// What is done then may be another instruction than that at Pc.
		return
	}
	word, ok := before.peek()
	long := uint32(word)
	if word%4 != 3 {
		long, _ = rvc.Expand(uint16(word))
	}
	i, is := decode.Decode(long)
	if !ok || !is || i.Class != api.Store && i.Class != api.Amo || i.Class == api.Amo && i.F == lr {
		t.Fatalf("bytes %v were changed by %#x", stored, word)
	}
}

// P14.8: a processor stays one that may be over many steps of words of any kind, also where memory is of them alone.
func TestStaysRight(t *testing.T) {
	next := chance()
	for range 60 {
		s := scened(4096)
		fill(s.b.Ram.Data, next)
		s.h.Csr.Mtvec, s.h.Csr.Stvec = base+next()%1024*4, base+next()%1024*4
		for i := 1; i < 32; i++ {
			s.h.X[i] = anyNumber(next)
		}
		want := runOf(s, 300)
		h, b := Run(s.h, s.b, 300)
		if text := differ(scene{h, b}, want); text != "" || !Check(h) {
			t.Fatalf("Run: %s", text)
		}
	}
}

// wrongBoards change a board into one that may not be, or that no call made.
func wrongBoards() []func(b *api.Board) {
	return []func(b *api.Board){
		func(b *api.Board) { *b = api.Board{} },
		func(b *api.Board) { b.Ram.Data = nil },
		func(b *api.Board) { b.Ram.Data = append(b.Ram.Data, make([]byte, api.MaxRam)...) },
		func(b *api.Board) { b.Plic = api.Plic{} },
		func(b *api.Board) { b.Plic.Claimed, b.Plic.Prio = 1, []int{9} },
		func(b *api.Board) { b.Uart = api.Uart{In: make([]byte, 50), Out: make([]byte, 5000), Ie: -1, Lost: -1} },
		func(b *api.Board) { b.Nic = api.Nic{} },
		func(b *api.Board) { b.Nic.TxHead, b.Nic.Mac = -1, nil },
	}
}

// R1: none panics, at whatever board, processor and number it is given; what comes is what the chapter makes of it, and the same again.
func TestAnything(t *testing.T) {
	next := chance()
	boards := wrongBoards()
	for n := range 3000 {
		s := wild(next)
		boards[n%len(boards)](&s.b)
		if often(next, 4) {
			s.h.Priv = int(next())
		}
		if often(next, 4) {
			s.h.X = s.h.X[:next()%33]
		}
		if often(next, 4) {
			s.h.Pc = next()
		}
		if often(next, 8) {
			s.h.Csr.Satp = next()
		}
		if Check(s.h) != checkOf(s.h) {
			t.Fatalf("Check of %+v", s.h)
		}
		again := s.clone()
		if got := held(t, s); !same(got, again.step()) {
			t.Fatal("the same step is another again")
		}
		New(next())
	}
}
