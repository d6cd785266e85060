package bus

import (
	"slices"
	"testing"

	"drawbridge/api"
	"drawbridge/plic"
)

// P13.1: New of sizes and addresses that may be answers a board that holds nothing but these.
func TestNew(t *testing.T) {
	for _, size := range []int{1, 2, 100, 4096, 65535, 65536} {
		b, e := New(size, hand())
		want := api.Board{
			Ram:  api.Ram{Data: make([]byte, size)},
			Plic: api.Plic{Prio: []int{0, 0, 0}, Enable: []int{0, 0}, Threshold: []int{0, 0}},
			Nic:  api.Nic{TxLen: 1, RxLen: 1, Mac: []byte{0x52, 0x54, 0x00, 0x12, 0x34, 0x56}},
		}
		if e != api.OK || !same(b, want) {
			t.Errorf("New of %d = %s, %d", size, tell(b), e)
		}
		if !plic.Check(b.Plic) {
			t.Errorf("New of %d: the interrupt controller may not be", size)
		}
	}
}

// P13.1, R2, R6: New of a size or an address that may not be, or of both, answers an error, and nothing else.
func TestNewRefused(t *testing.T) {
	for _, e := range []struct {
		size, mac int
	}{{0, 6}, {-1, 6}, {65537, 6}, {1 << 40, 6}, {-1 << 63, 6}, {1, 5}, {65536, 7}, {64, 0}, {64, 12}, {0, 5}, {65537, 7}, {-1, 0}} {
		b, err := New(e.size, bytesOf(e.mac, 1))
		if err != api.ErrArg || !same(b, api.Board{}) {
			t.Errorf("New of %d and %d bytes = %s, %d", e.size, e.mac, tell(b), err)
		}
	}
}

// P13.2: Example 1: what is stored at the line's first address goes out.
func TestExample(t *testing.T) {
	b, _ := New(16, hand())
	left, ok := Store(b, 0x10000000, 1, 0x41)
	if !ok || string(left.Uart.Out) != "A" {
		t.Errorf("Store = %s, %v", tell(left), ok)
	}
}

// P13.2: numbers that stand at addresses of each device, and of memory, told by hand.
func TestLoadWorked(t *testing.T) {
	for _, e := range []struct {
		at   uint64
		size int
		want uint64
		ok   bool
	}{
		{0x2000000, 4, 1, true},
		{0x2000000, 8, 0, false},
		{0x2000001, 4, 0, false},
		{0x2004000, 8, 0x99aabbccddeeff00, true},
		{0x2004004, 4, 0x99aabbcc, true},
		{0x200bff8, 8, 0x1122334455667788, true},
		{0x200bffc, 4, 0x11223344, true},
		{0x200fffc, 4, 0, false},
		{0x200ffff, 1, 0, false},
		{0x2010000, 4, 0, false},
		{0x1ffffff, 1, 0, false},
		{0xc000000, 4, 0, false},
		{0xc000004, 4, 3, true},
		{0xc000008, 4, 5, true},
		{0xc001000, 4, 6, true},
		{0xc002000, 4, 6, true},
		{0xc002080, 4, 2, true},
		{0xc200000, 4, 1, true},
		{0xc200004, 4, 2, true},
		{0xc201000, 4, 2, true},
		{0xc201004, 4, 1, true},
		{0xbffffff, 4, 0, false},
		{0xc3ffffc, 4, 0, false},
		{0xc400000, 4, 0, false},
		{0x10000000, 1, 'h', true},
		{0x10000001, 1, 1, true},
		{0x10000002, 1, 0, true},
		{0x10000005, 1, 0x61, true},
		{0x10000007, 1, 0, true},
		{0x10000007, 2, 0, false},
		{0x10000008, 1, 0, false},
		{0xfffffff, 1, 0, false},
		{0xffffffc, 8, 0, false},
		{0x10001000, 4, 3, true},
		{0x10001004, 4, 5, true},
		{0x1000100c, 4, base + 16, true},
		{0x10001030, 4, 12, true},
		{0x10001034, 4, 0x12005452, true},
		{0x10001038, 4, 0x5634, true},
		{0x1000103c, 4, 0, false},
		{0x10000ffc, 8, 0, false},
		{0x10000fff, 4, 0, false},
		{0x100010ff, 1, 0, false},
		{0x10001100, 4, 0, false},
		{base, 1, 0x6f, true},
		{base, 4, 0xde_b9_94_6f, true},
		{base + 63, 1, 0x8a, true},
		{base + 56, 8, 0x8a_65_40_1b_f6_d1_ac_87, true},
		{base + 57, 8, 0, false},
		{base + 64, 1, 0, false},
		{base - 1, 2, 0, false},
		{0, 8, 0, false},
		{0x5000000, 4, 0, false},
		{ones, 1, 0, false},
		{ones - 7, 8, 0, false},
	} {
		x, left, ok := Load(full(), e.at, e.size)
		if x != e.want || ok != e.ok {
			t.Errorf("Load at %#x of %d = %#x, %v, not %#x, %v", e.at, e.size, x, ok, e.want, e.ok)
		}
		if !ok && !same(left, full()) {
			t.Errorf("Load at %#x of %d: %s", e.at, e.size, tell(left))
		}
	}
}

// P13.2: what a Load takes from a device is gone, and all else is as it was.
func TestLoadTakes(t *testing.T) {
	for _, e := range []struct {
		at   uint64
		size int
		left func(b *api.Board)
	}{
		{0x10000000, 1, func(b *api.Board) { b.Uart.In = []byte("i") }},
		{0xc200004, 4, func(b *api.Board) { b.Plic.Pending, b.Plic.Claimed = 2, 4 }},
		{0xc201004, 4, func(b *api.Board) { b.Plic.Pending, b.Plic.Claimed = 4, 2 }},
		{0x10000005, 1, func(*api.Board) {}},
		{0xc001000, 4, func(*api.Board) {}},
		{0x2000000, 4, func(*api.Board) {}},
		{0x10001004, 4, func(*api.Board) {}},
		{base + 8, 8, func(*api.Board) {}},
	} {
		_, left, ok := Load(full(), e.at, e.size)
		if want := with(e.left); !ok || !same(left, want) {
			t.Errorf("Load at %#x: %s, not %s", e.at, tell(left), tell(want))
		}
	}
}

// P13.2: what is stored at addresses of each device, and of memory, told by hand; all else is as it was.
func TestStoreWorked(t *testing.T) {
	for _, e := range []struct {
		at   uint64
		size int
		x    uint64
		left func(b *api.Board)
	}{
		{0x2000000, 4, 0xfffffffe, func(b *api.Board) { b.Clint.Soft = false }},
		{0x2004000, 8, 77, func(b *api.Board) { b.Clint.Cmp = 77 }},
		{0x200bffc, 4, 1, func(b *api.Board) { b.Clint.Time = 0x155667788 }},
		{0xc000004, 4, 9, func(b *api.Board) { b.Plic.Prio[1] = 1 }},
		{0xc002080, 4, 4, func(b *api.Board) { b.Plic.Enable[1] = 4 }},
		{0xc201000, 4, 7, func(b *api.Board) { b.Plic.Threshold[1] = 7 }},
		{0xc001000, 4, 0, func(*api.Board) {}},
		{0x10000000, 1, 0x141, func(b *api.Board) { b.Uart.Out = []byte("outA") }},
		{0x10000001, 1, 2, func(b *api.Board) { b.Uart.Ie = 2 }},
		{0x10000007, 1, 2, func(*api.Board) {}},
		{0x10001000, 4, 4, func(b *api.Board) { b.Nic.Ctrl = 4 }},
		{0x10001004, 4, 4, func(b *api.Board) { b.Nic.Cause = 1 }},
		{0x10001020, 4, 3, func(b *api.Board) { b.Nic.RxLen, b.Nic.RxHead, b.Nic.RxTail = 3, 0, 0 }},
		{0x10001038, 4, 3, func(*api.Board) {}},
		{base, 1, 0x1ff, func(b *api.Board) { b.Ram.Data[0] = 0xff }},
		{base + 60, 4, 0x04030201, func(b *api.Board) { copy(b.Ram.Data[60:], []byte{1, 2, 3, 4}) }},
		{base + 5, 2, 0xabcd, func(b *api.Board) { copy(b.Ram.Data[5:], []byte{0xcd, 0xab}) }},
	} {
		left, ok := Store(full(), e.at, e.size, e.x)
		if want := with(e.left); !ok || !same(left, want) {
			t.Errorf("Store at %#x: %s, not %s", e.at, tell(left), tell(want))
		}
	}
}

// P13.2: every board, at the ends of each device's addresses and of memory, at each register, with each size.
func TestEdges(t *testing.T) {
	for _, b := range all() {
		for _, at := range edges() {
			for _, size := range sizes {
				loads(t, b, at, size)
				stores(t, b, at, size, 0xfedcba9876543203)
			}
		}
	}
}

// P13.2: no other device of the board is another behind a Load or a Store, whichever its address is of.
func TestOthersStay(t *testing.T) {
	for _, b := range all() {
		for _, at := range edges() {
			for _, size := range []int{1, 4, 8, 0} {
				_, loaded, _ := Load(clone(b), at, size)
				stored, _ := Store(clone(b), at, size, 5)
				for _, left := range []api.Board{loaded, stored} {
					mine := []bool{
						slices.Equal(left.Ram.Data, b.Ram.Data), left.Clint == b.Clint, samePlic(left.Plic, b.Plic),
						sameUart(left.Uart, b.Uart), sameNic(left.Nic, b.Nic),
					}
					own := slices.Index([]string{"memory", "the timer", "the interrupt controller", "the line", "the Ethernet controller"}, areaOf(at).name)
					for i, stays := range mine {
						if i != own && !stays {
							t.Fatalf("at %#x of %d, of %s: %s was %s", at, size, areaOf(at).name, tell(left), tell(b))
						}
					}
				}
			}
		}
	}
}

// P13.4: a Store that is not done changes nothing.
func TestRefusedStore(t *testing.T) {
	refused := 0
	for _, b := range all() {
		for _, at := range edges() {
			for _, size := range sizes {
				if left, ok := Store(clone(b), at, size, 0x5a5a5a5a5a5a5a5a); !ok {
					refused++
					if !same(left, b) {
						t.Fatalf("Store at %#x of %d: %s was %s", at, size, tell(left), tell(b))
					}
				}
			}
		}
	}
	if refused == 0 {
		t.Error("none was refused")
	}
}

// P13.4: what is stored in memory is loaded, what stands beside it stays, and no device is another then.
func TestStoredIsLoaded(t *testing.T) {
	was := full()
	for at := range uint64(64) {
		for _, size := range []int{1, 2, 4, 8} {
			x := 0xf1e2d3c4b5a69788 + at
			left, ok := Store(full(), base+at, size, x)
			if ok != (at+uint64(size) <= 64) {
				t.Fatalf("Store at %#x of %d: %v", at, size, ok)
			}
			if !sameDevices(left, was) {
				t.Fatalf("Store at %#x of %d: %s", at, size, tell(left))
			}
			if !ok {
				continue
			}
			got, behind, ok := Load(left, base+at, size)
			if want := x << (64 - 8*size) >> (64 - 8*size); got != want || !ok || !same(behind, left) {
				t.Fatalf("Load at %#x of %d = %#x, %v, not %#x", at, size, got, ok, want)
			}
			for i := range uint64(64) {
				if (i < at || i >= at+uint64(size)) && left.Ram.Data[i] != was.Ram.Data[i] {
					t.Fatalf("Store at %#x of %d: byte %d is another", at, size, i)
				}
			}
		}
	}
}

// P13.2: memory of the greatest size, and one that no call made, which has more: an access that ends at its end, and one that goes over it.
func TestMemoryEnds(t *testing.T) {
	for _, size := range []int{1, 7, 8, 64, api.MaxRam, api.MaxRam + 9} {
		b := with(func(b *api.Board) { b.Ram.Data = bytesOf(size, 2) })
		for _, n := range []int{1, 2, 4, 8} {
			for near := range 10 {
				at := base + uint64(size+near) - 9
				x, left, ok := Load(b, at, n)
				stored, done := Store(b, at, n, ones)
				inside := at >= base && near-9+n <= 0
				if ok != inside || done != inside || !ok && x != 0 || !same(left, b) || same(stored, b) == inside {
					t.Errorf("memory of %d, at %#x of %d: %#x, %v, %v", size, at, n, x, ok, done)
				}
				loads(t, b, at, n)
				stores(t, b, at, n, ones)
			}
		}
	}
}
