package bus

import (
	"fmt"
	"math"
	"slices"
	"testing"

	"drawbridge/api"
)

// base is where memory begins.
const base = api.RamBase

// hand is the address of a hand-made controller.
func hand() []byte { return []byte{0x52, 0x54, 0x00, 0x12, 0x34, 0x56} }

// bytesOf answers n bytes, none of which is like one near it.
func bytesOf(n int, from int) []byte {
	b := make([]byte, n)
	for i := range b {
		b[i] = byte((from + i) * 37)
	}
	return b
}

// full answers a board each of whose devices holds something, no two of them the same.
func full() api.Board {
	return api.Board{
		Ram:   api.Ram{Data: bytesOf(64, 3)},
		Clint: api.Clint{Time: 0x1122334455667788, Cmp: 0x99aabbccddeeff00, Soft: true},
		Plic:  api.Plic{Prio: []int{0, 3, 5}, Pending: 6, Claimed: 0, Enable: []int{6, 2}, Threshold: []int{1, 2}},
		Uart:  api.Uart{In: []byte("hi"), Out: []byte("out"), Ie: 1, Lost: 4},
		Nic: api.Nic{
			Ctrl: 3, Cause: 5, Mask: 9,
			TxBase: base + 16, TxLen: 7, TxHead: 1, TxTail: 6,
			RxBase: base + 32, RxLen: 9, RxHead: 2, RxTail: 8,
			Drops: 11, Errors: 12, Mac: hand(),
		},
	}
}

// with answers a board like full, changed by f.
func with(f func(b *api.Board)) api.Board {
	b := full()
	f(&b)
	return b
}

// some are boards that may be: with nothing, with everything, and such as tell the devices apart.
func some() []api.Board {
	fresh, _ := New(64, hand())
	return []api.Board{
		fresh,
		full(),
		with(func(b *api.Board) { b.Plic.Claimed, b.Plic.Pending, b.Uart.In = 2, 4, nil }),
		with(func(b *api.Board) { b.Plic.Claimed, b.Plic.Pending, b.Nic.Mask = 4, 0, 2 }),
		with(func(b *api.Board) { b.Plic.Enable, b.Clint = []int{0, 0}, api.Clint{Cmp: 9} }),
		with(func(b *api.Board) { b.Uart.In, b.Uart.Out = bytesOf(16, 1), bytesOf(4096, 5) }),
		with(func(b *api.Board) { b.Ram.Data, b.Uart.Ie = bytesOf(1, 9), 0 }),
		with(func(b *api.Board) { b.Clint = api.Clint{Time: ones, Cmp: ones}; b.Nic.Cause = 0 }),
	}
}

// wrongOnes are boards one of whose devices may not be, and such as no call made.
func wrongOnes() []api.Board {
	return []api.Board{
		{},
		with(func(b *api.Board) { b.Ram.Data = nil }),
		with(func(b *api.Board) { b.Clint = api.Clint{} }),
		with(func(b *api.Board) { b.Plic = api.Plic{} }),
		with(func(b *api.Board) { b.Plic.Prio = []int{0, 8, 1} }),
		with(func(b *api.Board) { b.Plic.Enable = []int{6, 6, 6} }),
		with(func(b *api.Board) { b.Plic.Claimed = 1 }),
		with(func(b *api.Board) { b.Uart = api.Uart{} }),
		with(func(b *api.Board) { b.Uart = api.Uart{In: bytesOf(40, 1), Out: bytesOf(5000, 1), Ie: -7, Lost: -1} }),
		with(func(b *api.Board) { b.Nic = api.Nic{} }),
		with(func(b *api.Board) { b.Nic.Mac = bytesOf(5, 1) }),
		with(func(b *api.Board) { b.Nic.Cause, b.Nic.Mask = 16, 16 }),
		with(func(b *api.Board) { b.Nic.TxHead = -1 }),
	}
}

// all answers boards that may be, and such as may not.
func all() []api.Board { return append(some(), wrongOnes()...) }

// edges are addresses at the ends of each area, and at the registers and memory's ends.
func edges() []uint64 {
	var list []uint64
	for _, a := range areas() {
		for near := range uint64(9) {
			list = append(list, a.first+near, a.first-near, a.last+near, a.last-near)
		}
	}
	for near := range uint64(18) {
		list = append(list, base-9+near, base+64-9+near, base+api.MaxRam-9+near)
	}
	list = append(list, 0x2004000, 0x2004004, 0x200bff8, 0x200bffc,
		0xc000004, 0xc000008, 0xc001000, 0xc002000, 0xc002080, 0xc200000, 0xc200004, 0xc201000, 0xc201004,
		1<<32, 1<<32+base, 1<<32+0x2000000, 1<<32+0x10000000, 1<<63, 1<<63+0x10000000, 1<<63+0x10001000)
	for i := range uint64(16) {
		list = append(list, 0x10001000+4*i, 0x1000103b+4*i)
	}
	return list
}

// sizes are those that there are, and such as there are not.
var sizes = []int{1, 2, 4, 8, 0, 3, 5, 7, 9, 16, -1, -4, math.MaxInt, math.MinInt, 1<<32 + 4}

// same tells whether two boards hold the same.
func same(a, b api.Board) bool {
	return slices.Equal(a.Ram.Data, b.Ram.Data) && sameDevices(a, b)
}

// sameDevices tells whether the devices of two boards hold the same.
func sameDevices(a, b api.Board) bool {
	return a.Clint == b.Clint && samePlic(a.Plic, b.Plic) && sameUart(a.Uart, b.Uart) && sameNic(a.Nic, b.Nic)
}

func samePlic(a, b api.Plic) bool {
	return slices.Equal(a.Prio, b.Prio) && slices.Equal(a.Enable, b.Enable) && slices.Equal(a.Threshold, b.Threshold) &&
		a.Pending == b.Pending && a.Claimed == b.Claimed
}

func sameUart(a, b api.Uart) bool {
	return slices.Equal(a.In, b.In) && slices.Equal(a.Out, b.Out) && a.Ie == b.Ie && a.Lost == b.Lost
}

func sameNic(a, b api.Nic) bool {
	// A %v tells nil and empty lists alike.
	return fmt.Sprintf("%v", a) == fmt.Sprintf("%v", b)
}

// tell answers a board as a text, long lists by their ends.
func tell(b api.Board) string {
	return fmt.Sprintf("{Ram %s, Clint %v, Plic %v, Uart In %s Out %s Ie %d Lost %d, Nic %v}",
		short(b.Ram.Data), b.Clint, b.Plic, short(b.Uart.In), short(b.Uart.Out), b.Uart.Ie, b.Uart.Lost, b.Nic)
}

// short answers bytes as a text.
func short(b []byte) string {
	if len(b) <= 64 {
		return fmt.Sprintf("% x", b)
	}
	return fmt.Sprintf("%d bytes % x to % x", len(b), b[:8], b[len(b)-8:])
}

// bytesIn and numbersIn answer a board's lists, so that they can be changed.
func bytesIn(b *api.Board) []*[]byte {
	return []*[]byte{&b.Ram.Data, &b.Uart.In, &b.Uart.Out, &b.Nic.Mac}
}

func numbersIn(b *api.Board) []*[]int {
	return []*[]int{&b.Plic.Prio, &b.Plic.Enable, &b.Plic.Threshold}
}

// clone answers a board like b that shares nothing with it.
func clone(b api.Board) api.Board {
	for _, list := range bytesIn(&b) {
		*list = slices.Clone(*list)
	}
	for _, list := range numbersIn(&b) {
		*list = slices.Clone(*list)
	}
	return b
}

// loads holds Load against the chapter.
func loads(t *testing.T, b api.Board, at uint64, size int) {
	t.Helper()
	x, left, ok := Load(clone(b), at, size)
	want, wantLeft, is := loadOf(b, at, size)
	if x != want || ok != is || !same(left, wantLeft) {
		t.Fatalf("Load(%s, %#x, %d) = %#x, %s, %v, not %#x, %s, %v", tell(b), at, size, x, tell(left), ok, want, tell(wantLeft), is)
	}
}

// stores holds Store against the chapter.
func stores(t *testing.T, b api.Board, at uint64, size int, x uint64) {
	t.Helper()
	left, ok := Store(clone(b), at, size, x)
	wantLeft, is := storeOf(b, at, size, x)
	if ok != is || !same(left, wantLeft) {
		t.Fatalf("Store(%s, %#x, %d, %#x) = %s, %v, not %s, %v", tell(b), at, size, x, tell(left), ok, tell(wantLeft), is)
	}
}

// chance answers numbers that look like chance, the same ones each time.
func chance() func() int {
	x := uint64(0x9e3779b97f4a7c15)
	return func() int {
		x ^= x << 13
		x ^= x >> 7
		x ^= x << 17
		return int(x >> 1)
	}
}
