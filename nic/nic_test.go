package nic

import (
	"bytes"
	"math"
	"testing"

	"drawbridge/api"
)

// P12.4: the chapter's example.
func TestExample(t *testing.T) {
	n, e := New(hand())
	if e != api.OK {
		t.Fatal(e)
	}
	n, _ = Store(n, 0, 4, 1)
	if left, r, frame, ok := Send(n, memory(64)); ok || len(frame) != 0 || !same(left, n) || !sameRam(r, memory(64)) {
		t.Errorf("%s, %s, %v", tell(left), short(frame), ok)
	}
}

// P12.1: New of addresses of 6 bytes, number by number, and of others.
func TestNew(t *testing.T) {
	for _, mac := range [][]byte{hand(), everyone(), {0, 0, 0, 0, 0, 0}, {1, 2, 3, 4, 5, 6}} {
		n, e := New(mac)
		if want := (api.Nic{TxLen: 1, RxLen: 1, Mac: mac}); e != api.OK || !same(n, want) {
			t.Errorf("New(%x) = %s, %d", mac, tell(n), e)
		}
		if !Check(n) {
			t.Errorf("New(%x) may not be", mac)
		}
	}
	for _, size := range []int{0, 1, 2, 3, 4, 5, 7, 8, 9, 12, 64, 256, 262, 65536, 65542} {
		if n, e := New(make([]byte, size)); e != api.ErrArg || !same(n, api.Nic{}) {
			t.Errorf("New of %d bytes = %s, %d", size, tell(n), e)
		}
	}
	if n, e := New(nil); e != api.ErrArg || !same(n, api.Nic{}) {
		t.Errorf("New(nil) = %s, %d", tell(n), e)
	}
}

// R7: of New's address its length alone counts, not the room behind its end.
func TestNewRoom(t *testing.T) {
	wide := append(hand(), 7, 8)
	if n, e := New(wide[:6]); e != api.OK || !bytes.Equal(n.Mac, hand()) {
		t.Errorf("of 6 bytes, and room: %s, %d", tell(n), e)
	}
	if n, e := New(wide[:5]); e != api.ErrArg || len(n.Mac) != 0 {
		t.Errorf("of 5 bytes, and room: %s, %d", tell(n), e)
	}
}

// P12.1: each condition of Check, broken alone, and at its edges.
func TestCheckEdges(t *testing.T) {
	for _, e := range []struct {
		name string
		want bool
		do   func(n *api.Nic)
	}{
		{"as it is", true, func(*api.Nic) {}},
		{"Mac nil", false, func(n *api.Nic) { n.Mac = nil }},
		{"Mac empty", false, func(n *api.Nic) { n.Mac = []byte{} }},
		{"Mac of 5", false, func(n *api.Nic) { n.Mac = make([]byte, 5) }},
		{"Mac of 6", true, func(n *api.Nic) { n.Mac = make([]byte, 6) }},
		{"Mac of 7", false, func(n *api.Nic) { n.Mac = make([]byte, 7) }},
		{"Mac of 5, and room", false, func(n *api.Nic) { n.Mac = make([]byte, 6)[:5] }},
		{"Ctrl -1", false, func(n *api.Nic) { n.Ctrl = -1 }},
		{"Ctrl 0", true, func(n *api.Nic) { n.Ctrl = 0 }},
		{"Ctrl 7", true, func(n *api.Nic) { n.Ctrl = 7 }},
		{"Ctrl 8", false, func(n *api.Nic) { n.Ctrl = 8 }},
		{"Cause -1", false, func(n *api.Nic) { n.Cause = -1 }},
		{"Cause 0", true, func(n *api.Nic) { n.Cause = 0 }},
		{"Cause 15", true, func(n *api.Nic) { n.Cause = 15 }},
		{"Cause 16", false, func(n *api.Nic) { n.Cause = 16 }},
		{"Mask -1", false, func(n *api.Nic) { n.Mask = -1 }},
		{"Mask 0", true, func(n *api.Nic) { n.Mask = 0 }},
		{"Mask 15", true, func(n *api.Nic) { n.Mask = 15 }},
		{"Mask 16", false, func(n *api.Nic) { n.Mask = 16 }},
		{"TxBase 0", true, func(n *api.Nic) { n.TxBase = 0 }},
		{"TxBase 2^32 - 1", true, func(n *api.Nic) { n.TxBase = 1<<32 - 1 }},
		{"TxBase 2^32", false, func(n *api.Nic) { n.TxBase = 1 << 32 }},
		{"TxBase 2^64 - 1", false, func(n *api.Nic) { n.TxBase = ones }},
		{"RxBase 0", true, func(n *api.Nic) { n.RxBase = 0 }},
		{"RxBase 2^32 - 1", true, func(n *api.Nic) { n.RxBase = 1<<32 - 1 }},
		{"RxBase 2^32", false, func(n *api.Nic) { n.RxBase = 1 << 32 }},
		{"RxBase 2^64 - 1", false, func(n *api.Nic) { n.RxBase = ones }},
		{"TxLen 0", false, func(n *api.Nic) { n.TxLen, n.TxHead, n.TxTail = 0, 0, 0 }},
		{"TxLen 1", true, func(n *api.Nic) { n.TxLen, n.TxHead, n.TxTail = 1, 0, 0 }},
		{"TxLen 64", true, func(n *api.Nic) { n.TxLen = 64 }},
		{"TxLen 65", false, func(n *api.Nic) { n.TxLen = 65 }},
		{"RxLen 0", false, func(n *api.Nic) { n.RxLen, n.RxHead, n.RxTail = 0, 0, 0 }},
		{"RxLen 1", true, func(n *api.Nic) { n.RxLen, n.RxHead, n.RxTail = 1, 0, 0 }},
		{"RxLen 64", true, func(n *api.Nic) { n.RxLen = 64 }},
		{"RxLen 65", false, func(n *api.Nic) { n.RxLen = 65 }},
		{"TxHead -1", false, func(n *api.Nic) { n.TxHead = -1 }},
		{"TxHead 0", true, func(n *api.Nic) { n.TxHead = 0 }},
		{"TxHead 6 of 7", true, func(n *api.Nic) { n.TxHead = 6 }},
		{"TxHead 7 of 7", false, func(n *api.Nic) { n.TxHead = 7 }},
		{"TxHead 8 of 7", false, func(n *api.Nic) { n.TxHead = 8 }},
		{"TxHead 63 of 64", true, func(n *api.Nic) { n.TxLen, n.TxHead = 64, 63 }},
		{"TxHead 64 of 64", false, func(n *api.Nic) { n.TxLen, n.TxHead = 64, 64 }},
		{"TxTail -1", false, func(n *api.Nic) { n.TxTail = -1 }},
		{"TxTail 0", true, func(n *api.Nic) { n.TxTail = 0 }},
		{"TxTail 6 of 7", true, func(n *api.Nic) { n.TxTail = 6 }},
		{"TxTail 7 of 7", false, func(n *api.Nic) { n.TxTail = 7 }},
		{"TxTail 8 of 7", false, func(n *api.Nic) { n.TxTail = 8 }},
		{"RxHead -1", false, func(n *api.Nic) { n.RxHead = -1 }},
		{"RxHead 0", true, func(n *api.Nic) { n.RxHead = 0 }},
		{"RxHead 8 of 9", true, func(n *api.Nic) { n.RxHead = 8 }},
		{"RxHead 9 of 9", false, func(n *api.Nic) { n.RxHead = 9 }},
		{"RxHead 10 of 9", false, func(n *api.Nic) { n.RxHead = 10 }},
		{"RxHead 63 of 64", true, func(n *api.Nic) { n.RxLen, n.RxHead = 64, 63 }},
		{"RxHead 64 of 64", false, func(n *api.Nic) { n.RxLen, n.RxHead = 64, 64 }},
		{"RxTail -1", false, func(n *api.Nic) { n.RxTail = -1 }},
		{"RxTail 0", true, func(n *api.Nic) { n.RxTail = 0 }},
		{"RxTail 8 of 9", true, func(n *api.Nic) { n.RxTail = 8 }},
		{"RxTail 9 of 9", false, func(n *api.Nic) { n.RxTail = 9 }},
		{"RxTail 10 of 9", false, func(n *api.Nic) { n.RxTail = 10 }},
		{"Drops -1", false, func(n *api.Nic) { n.Drops = -1 }},
		{"Drops 0", true, func(n *api.Nic) { n.Drops = 0 }},
		{"Drops 2^31", true, func(n *api.Nic) { n.Drops = 1 << 31 }},
		{"Drops 2^31 + 1", false, func(n *api.Nic) { n.Drops = 1<<31 + 1 }},
		{"Errors -1", false, func(n *api.Nic) { n.Errors = -1 }},
		{"Errors 0", true, func(n *api.Nic) { n.Errors = 0 }},
		{"Errors 2^31", true, func(n *api.Nic) { n.Errors = 1 << 31 }},
		{"Errors 2^31 + 1", false, func(n *api.Nic) { n.Errors = 1<<31 + 1 }},
	} {
		if n := with(e.do); Check(n) != e.want {
			t.Errorf("%s: Check = %v", e.name, !e.want)
		}
	}
}

// fields are what a controller has, beside its address; each is set to a number.
var fields = []func(n *api.Nic, x int){
	func(n *api.Nic, x int) { n.Ctrl = x },
	func(n *api.Nic, x int) { n.Cause = x },
	func(n *api.Nic, x int) { n.Mask = x },
	func(n *api.Nic, x int) { n.TxBase = uint64(x) },
	func(n *api.Nic, x int) { n.TxLen = x },
	func(n *api.Nic, x int) { n.TxHead = x },
	func(n *api.Nic, x int) { n.TxTail = x },
	func(n *api.Nic, x int) { n.RxBase = uint64(x) },
	func(n *api.Nic, x int) { n.RxLen = x },
	func(n *api.Nic, x int) { n.RxHead = x },
	func(n *api.Nic, x int) { n.RxTail = x },
	func(n *api.Nic, x int) { n.Drops = x },
	func(n *api.Nic, x int) { n.Errors = x },
}

// P12.1: Check, with numbers of all kinds in one field, and in two.
func TestCheck(t *testing.T) {
	xs := []int{math.MinInt, math.MinInt + 1, math.MaxInt - 1, math.MaxInt, most - 1, most, most + 1}
	for bit := range 64 {
		xs = append(xs, 1<<bit, -1<<bit, ^(1 << bit), 1<<bit|3)
	}
	for x := range 70 {
		xs = append(xs, x, -x)
	}
	for _, was := range some() {
		for i, first := range fields {
			for j, x := range xs {
				n := copyOf(was)
				first(&n, x)
				if Check(n) != checkOf(n) {
					t.Fatalf("Check(%s) = %v", tell(n), Check(n))
				}
				fields[(i+j)%len(fields)](&n, xs[(j*7+i)%len(xs)])
				if Check(n) != checkOf(n) {
					t.Fatalf("Check(%s) = %v", tell(n), Check(n))
				}
			}
		}
	}
}

// P12.1: all calls answer zeros, what they are given as it is, and false, of a controller that may not be, which would do something else.
func TestMayNotBe(t *testing.T) {
	r := memory(0x1000)
	for i := range uint64(9) {
		putDesc(r, base+0x100+16*i, desc{base + 0x400, 60, 1, 0})
		putDesc(r, base+0x200+16*i, desc{base + 0x800, 60, 1, 0})
	}
	may := full()
	may.Cause, may.Mask = 15, 15
	if _, ok := Load(may, 0, 4); !ok || !Line(may) {
		t.Error("of one that may be there is nothing")
	}
	for name, n := range wrongOnes() {
		if Check(n) {
			t.Errorf("%s: it may be", name)
		}
		if Line(n) {
			t.Errorf("%s: Line", name)
		}
		for i := range uint64(16) {
			if x, ok := Load(n, 4*i, 4); x != 0 || ok {
				t.Errorf("%s: Load(%d) = %d, %v", name, 4*i, x, ok)
			}
			if left, ok := Store(n, 4*i, 4, 1); !same(left, n) || ok {
				t.Errorf("%s: Store(%d) = %s, %v", name, 4*i, tell(left), ok)
			}
		}
		if left, s, frame, ok := Send(n, r); !same(left, n) || !sameRam(s, r) || len(frame) != 0 || ok {
			t.Errorf("%s: Send = %s, %s, %v", name, tell(left), short(frame), ok)
		}
		for _, frame := range [][]byte{frameOf(60, hand()), frameOf(60, everyone()), frameOf(60, nil), frameOf(3, nil), nil} {
			if left, s, ok := Receive(n, r, frame); !same(left, n) || !sameRam(s, r) || ok {
				t.Errorf("%s: Receive = %s, %v", name, tell(left), ok)
			}
		}
	}
}

// P12.1: Line is down of a controller that may not be, whatever Cause and Mask it has.
func TestLineMayNotBe(t *testing.T) {
	for _, was := range wrongOnes() {
		for _, x := range []int{15, -1, math.MaxInt, 16, 31} {
			n := copyOf(was)
			n.Cause, n.Mask = x, x
			if Line(n) && !checkOf(n) {
				t.Errorf("Line(%s)", tell(n))
			}
		}
	}
}

// P12.2: Load of each register, told number by number.
func TestLoadEach(t *testing.T) {
	for off, want := range map[uint64]uint64{
		0: 3, 4: 5, 8: 10,
		12: 0x80000100, 16: 7, 20: 1, 24: 6,
		28: 0x80000200, 32: 9, 36: 2, 40: 8,
		44: 11, 48: 12, 52: 0x12005452, 56: 0x5634,
	} {
		if x, ok := Load(full(), off, 4); x != want || !ok {
			t.Errorf("Load(%d) = %#x, %v, not %#x", off, x, ok, want)
		}
	}
	great := some()[2]
	for off, want := range map[uint64]uint64{
		0: 7, 4: 15, 8: 15,
		12: 0xffffffff, 16: 64, 20: 63, 24: 63,
		28: 0xffffffff, 32: 64, 36: 63, 40: 63,
		44: 0x80000000, 48: 0x80000000, 52: 0xffffffff, 56: 0xffff,
	} {
		if x, ok := Load(great, off, 4); x != want || !ok {
			t.Errorf("of the greatest numbers: Load(%d) = %#x, %v, not %#x", off, x, ok, want)
		}
	}
}

// P12.2: Load at each place, of controllers of all kinds; with sizes that there are not; and at places beside them, 60 and the greatest number among them.
func TestLoad(t *testing.T) {
	for _, n := range some() {
		for i, p := range places {
			off := uint64(4 * i)
			if x, ok := Load(n, off, 4); x != p.load(n) || !ok {
				t.Errorf("Load(%s, %d) = %#x, %v", tell(n), off, x, ok)
			}
			for _, size := range sizes {
				if x, ok := Load(n, off, size); x != 0 || ok {
					t.Errorf("Load(%s, %d, %d) = %#x, %v", tell(n), off, size, x, ok)
				}
			}
		}
		for _, off := range beside() {
			if x, ok := Load(n, off, 4); x != 0 || ok {
				t.Errorf("Load(%s, %#x) = %#x, %v", tell(n), off, x, ok)
			}
		}
	}
}

// stored answers full, changed by f, behind a Store of x at off.
func stored(t *testing.T, f func(n *api.Nic), off uint64, x uint64) api.Nic {
	t.Helper()
	left, ok := Store(with(f), off, 4, x)
	if !ok {
		t.Errorf("Store(%d, %#x) is refused", off, x)
	}
	return left
}

// P12.2: Store of each register, told number by number.
func TestStoreEach(t *testing.T) {
	as := func(*api.Nic) {}
	for _, c := range []struct {
		name string
		off  uint64
		x    uint64
		want func(n *api.Nic)
	}{
		{"Ctrl 0", 0, 0, func(n *api.Nic) { n.Ctrl = 0 }},
		{"Ctrl 5", 0, 5, func(n *api.Nic) { n.Ctrl = 5 }},
		{"Ctrl 7", 0, 7, func(n *api.Nic) { n.Ctrl = 7 }},
		{"Ctrl 8", 0, 8, func(n *api.Nic) { n.Ctrl = 0 }},
		{"Ctrl of all bits", 0, ones, func(n *api.Nic) { n.Ctrl = 7 }},
		{"Ctrl of bits above 32", 0, 7 << 32, func(n *api.Nic) { n.Ctrl = 0 }},
		{"Cause 0", 4, 0, as},
		{"Cause 1", 4, 1, func(n *api.Nic) { n.Cause = 4 }},
		{"Cause 2", 4, 2, as},
		{"Cause 4", 4, 4, func(n *api.Nic) { n.Cause = 1 }},
		{"Cause 8", 4, 8, as},
		{"Cause 7", 4, 7, func(n *api.Nic) { n.Cause = 0 }},
		{"Cause 16", 4, 16, as},
		{"Cause of all bits", 4, ones, func(n *api.Nic) { n.Cause = 0 }},
		{"Cause of bits above 32", 4, 5 << 32, as},
		{"Mask 0", 8, 0, func(n *api.Nic) { n.Mask = 0 }},
		{"Mask 15", 8, 15, func(n *api.Nic) { n.Mask = 15 }},
		{"Mask 16", 8, 16, func(n *api.Nic) { n.Mask = 0 }},
		{"Mask 21", 8, 21, func(n *api.Nic) { n.Mask = 5 }},
		{"Mask of bits above 32", 8, 1 << 32, func(n *api.Nic) { n.Mask = 0 }},
		{"TxBase 0", 12, 0, func(n *api.Nic) { n.TxBase = 0 }},
		{"TxBase 1", 12, 1, func(n *api.Nic) { n.TxBase = 1 }},
		{"TxBase 2^32 - 1", 12, 1<<32 - 1, func(n *api.Nic) { n.TxBase = 1<<32 - 1 }},
		{"TxBase 2^32", 12, 1 << 32, func(n *api.Nic) { n.TxBase = 0 }},
		{"TxBase of all bits", 12, ones, func(n *api.Nic) { n.TxBase = 1<<32 - 1 }},
		{"TxLen 0", 16, 0, as},
		{"TxLen 1", 16, 1, func(n *api.Nic) { n.TxLen, n.TxHead, n.TxTail = 1, 0, 0 }},
		{"TxLen 7, as it was", 16, 7, func(n *api.Nic) { n.TxHead, n.TxTail = 0, 0 }},
		{"TxLen 64", 16, 64, func(n *api.Nic) { n.TxLen, n.TxHead, n.TxTail = 64, 0, 0 }},
		{"TxLen 65", 16, 65, as},
		{"TxLen 2^31", 16, 1 << 31, as},
		{"TxLen 2^31 + 1", 16, 1<<31 + 1, as},
		{"TxLen 2^32", 16, 1 << 32, as},
		{"TxLen 2^32 + 3", 16, 1<<32 + 3, func(n *api.Nic) { n.TxLen, n.TxHead, n.TxTail = 3, 0, 0 }},
		{"TxLen of all bits", 16, ones, as},
		{"TxHead 0", 20, 0, as},
		{"TxHead 3", 20, 3, as},
		{"TxTail 0", 24, 0, func(n *api.Nic) { n.TxTail = 0 }},
		{"TxTail at its head", 24, 1, func(n *api.Nic) { n.TxTail = 1 }},
		{"TxTail just below its length", 24, 6, as},
		{"TxTail 5", 24, 5, func(n *api.Nic) { n.TxTail = 5 }},
		{"TxTail at its length", 24, 7, as},
		{"TxTail below the other length", 24, 8, as},
		{"TxTail of bits above 32", 24, 1<<32 + 2, func(n *api.Nic) { n.TxTail = 2 }},
		{"TxTail of all bits", 24, ones, as},
		{"TxTail 2^31", 24, 1 << 31, as},
		{"RxBase 0", 28, 0, func(n *api.Nic) { n.RxBase = 0 }},
		{"RxBase 1", 28, 1, func(n *api.Nic) { n.RxBase = 1 }},
		{"RxBase 2^32 - 1", 28, 1<<32 - 1, func(n *api.Nic) { n.RxBase = 1<<32 - 1 }},
		{"RxBase 2^32", 28, 1 << 32, func(n *api.Nic) { n.RxBase = 0 }},
		{"RxBase of all bits", 28, ones, func(n *api.Nic) { n.RxBase = 1<<32 - 1 }},
		{"RxLen 0", 32, 0, as},
		{"RxLen 1", 32, 1, func(n *api.Nic) { n.RxLen, n.RxHead, n.RxTail = 1, 0, 0 }},
		{"RxLen 9, as it was", 32, 9, func(n *api.Nic) { n.RxHead, n.RxTail = 0, 0 }},
		{"RxLen 64", 32, 64, func(n *api.Nic) { n.RxLen, n.RxHead, n.RxTail = 64, 0, 0 }},
		{"RxLen 65", 32, 65, as},
		{"RxLen 2^32", 32, 1 << 32, as},
		{"RxLen 2^32 + 3", 32, 1<<32 + 3, func(n *api.Nic) { n.RxLen, n.RxHead, n.RxTail = 3, 0, 0 }},
		{"RxLen of all bits", 32, ones, as},
		{"RxHead 0", 36, 0, as},
		{"RxHead 3", 36, 3, as},
		{"RxTail 0", 40, 0, func(n *api.Nic) { n.RxTail = 0 }},
		{"RxTail at its head", 40, 2, func(n *api.Nic) { n.RxTail = 2 }},
		{"RxTail just below the other length", 40, 6, func(n *api.Nic) { n.RxTail = 6 }},
		{"RxTail above the other length", 40, 7, func(n *api.Nic) { n.RxTail = 7 }},
		{"RxTail just below its length", 40, 8, as},
		{"RxTail at its length", 40, 9, as},
		{"RxTail of bits above 32", 40, 1<<32 + 4, func(n *api.Nic) { n.RxTail = 4 }},
		{"RxTail of all bits", 40, ones, as},
		{"Drops", 44, 0, as},
		{"Errors", 48, 0, as},
		{"Mac's first four", 52, 0, as},
		{"Mac's last two", 56, 0, as},
	} {
		if got, want := stored(t, as, c.off, c.x), with(c.want); !same(got, want) {
			t.Errorf("%s: %s, not %s", c.name, tell(got), tell(want))
		}
	}
}

// P12.2: of Cause each bit that is stored goes by itself, whichever others there are.
func TestStoreCause(t *testing.T) {
	for cause := range 16 {
		for y := range uint64(64) {
			got := stored(t, func(n *api.Nic) { n.Cause = cause }, 4, y)
			want := with(func(n *api.Nic) { n.Cause = cause & ^int(y) })
			if !same(got, want) {
				t.Errorf("%d stored in Cause %d: %s", y, cause, tell(got))
			}
		}
	}
}

// P12.2: behind a length that is taken the tails that there are can be stored, and no others; a length that is not taken leaves both places.
func TestStoreLengths(t *testing.T) {
	for length := range uint64(70) {
		for tail := range uint64(70) {
			n := stored(t, func(*api.Nic) {}, 16, length)
			n, _ = Store(n, 24, 4, tail)
			n, _ = Store(n, 32, 4, length)
			n, _ = Store(n, 40, 4, tail)
			want := full()
			if length >= 1 && length <= 64 {
				want.TxLen, want.TxHead, want.TxTail = int(length), 0, 0
				want.RxLen, want.RxHead, want.RxTail = int(length), 0, 0
			}
			if tail < uint64(want.TxLen) {
				want.TxTail = int(tail)
			}
			if tail < uint64(want.RxLen) {
				want.RxTail = int(tail)
			}
			if !same(n, want) {
				t.Fatalf("lengths %d, tails %d: %s, not %s", length, tail, tell(n), tell(want))
			}
		}
	}
}

// P12.2: Store of numbers of all kinds at each place, of controllers of all kinds.
func TestStore(t *testing.T) {
	for _, n := range some() {
		for i, p := range places {
			off := uint64(4 * i)
			for _, x := range numbers() {
				left, ok := Store(n, off, 4, x)
				want, _ := storeOf(n, off, 4, x)
				if !same(left, want) || !ok {
					t.Fatalf("Store(%s, %s, %#x) = %s, %v, not %s", tell(n), p.name, x, tell(left), ok, tell(want))
				}
				if !Check(left) {
					t.Fatalf("Store(%s, %s, %#x) = %s, which may not be", tell(n), p.name, x, tell(left))
				}
			}
		}
	}
}

// P12.2: Store with sizes that there are not, and at places beside those that there are.
func TestStoreRefused(t *testing.T) {
	for _, n := range some() {
		for i, p := range places {
			for _, size := range sizes {
				if left, ok := Store(n, uint64(4*i), size, 0); !same(left, n) || ok {
					t.Fatalf("Store(%s, %s) with size %d = %s, %v", tell(n), p.name, size, tell(left), ok)
				}
			}
		}
		for i, off := range beside() {
			x := []uint64{0, 1, 15, ones}[i%4]
			if left, ok := Store(n, off, 4, x); !same(left, n) || ok {
				t.Fatalf("Store(%s, %#x) = %s, %v", tell(n), off, tell(left), ok)
			}
		}
	}
}

// P12.2: what is stored is loaded, as much of it as is kept.
func TestStoredIsLoaded(t *testing.T) {
	n, _ := New(hand())
	for _, c := range []struct{ off, x, want uint64 }{
		{0, 6, 6}, {0, 0xfff3, 3}, {8, 9, 9}, {8, 0x1ff, 15}, {12, 0x80000010, 0x80000010}, {12, 0x180000018, 0x80000018},
		{16, 5, 5}, {20, 4, 0}, {24, 4, 4}, {24, 5, 4}, {16, 65, 5}, {24, 3, 3}, {16, 2, 2}, {24, 2, 0},
		{28, 0x80000020, 0x80000020}, {32, 64, 64}, {36, 4, 0}, {40, 63, 63}, {40, 64, 63}, {32, 0, 64}, {32, 1, 1}, {40, 1, 0},
		{44, 3, 0}, {48, 3, 0}, {52, 3, 0x12005452}, {56, 3, 0x5634},
	} {
		left, ok := Store(n, c.off, 4, c.x)
		if x, is := Load(left, c.off, 4); x != c.want || !ok || !is {
			t.Errorf("%#x stored at %d: %#x, %v, %v, not %#x", c.x, c.off, x, ok, is, c.want)
		}
		n = left
	}
}

// P12.2: Line of each Cause and Mask, and of a bit in one of them alone.
func TestLine(t *testing.T) {
	for cause := range 16 {
		for mask := range 16 {
			n := with(func(n *api.Nic) { n.Cause, n.Mask = cause, mask })
			if want := upOf(n); Line(n) != want {
				t.Errorf("Cause %d, Mask %d: %v", cause, mask, !want)
			}
		}
	}
	for bit := range 4 {
		for _, c := range []struct {
			cause, mask int
			want        bool
		}{{1 << bit, 1 << bit, true}, {1 << bit, 15 - 1<<bit, false}, {15 - 1<<bit, 1 << bit, false}, {15, 1 << bit, true}, {1 << bit, 15, true}, {0, 15, false}, {15, 0, false}} {
			if Line(with(func(n *api.Nic) { n.Cause, n.Mask = c.cause, c.mask })) != c.want {
				t.Errorf("Cause %d, Mask %d: %v", c.cause, c.mask, !c.want)
			}
		}
	}
}
