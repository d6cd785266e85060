package bus

import (
	"testing"

	"drawbridge/api"
)

// quiet answers a board none of whose interrupts is up.
func quiet() api.Board {
	b, _ := New(16, hand())
	b.Clint.Cmp = 1
	return b
}

// loud makes a board's line, its Ethernet controller, or both, ask for an interrupt.
func loud(b *api.Board, line bool, controller bool) {
	if line {
		b.Uart.In, b.Uart.Ie = []byte("x"), 1
	}
	if controller {
		b.Nic.Cause, b.Nic.Mask = 2, 6
	}
}

// P13.3: a board that was just made has the timer's interrupt up, since its time is at least 0; nothing else.
func TestLinesNew(t *testing.T) {
	b, _ := New(16, hand())
	if left, up := Lines(b); up != 0x80 || !same(left, b) {
		t.Errorf("Lines = %s, %#x", tell(left), up)
	}
}

// P13.3: each of the four bits alone, and together with others.
func TestLinesBits(t *testing.T) {
	for want := range uint64(16) {
		b := quiet()
		expected := uint64(0)
		if want&1 != 0 {
			b.Clint.Soft = true
			expected += 1 << 3
		}
		if want&2 != 0 {
			b.Clint.Time = 1
			expected += 1 << 7
		}
		b.Plic.Prio = []int{0, 1, 1}
		if want&4 != 0 {
			b.Plic.Enable[1], b.Plic.Pending = 2, 2
			expected += 1 << 9
		}
		if want&8 != 0 {
			b.Plic.Enable[0] = 4
			b.Plic.Pending |= 4
			expected += 1 << 11
		}
		if left, up := Lines(b); up != expected || !same(left, b) {
			t.Errorf("Lines = %#x, not %#x; %s", up, expected, tell(left))
		}
	}
}

// P13.3: the line is source 1, the Ethernet controller source 2; what is up comes besides what is pending, and is told at once.
func TestLinesSources(t *testing.T) {
	for _, e := range []struct {
		line, controller bool
		pending, want    int
		up               uint64
	}{
		{false, false, 0, 0, 0},
		{true, false, 0, 2, 1 << 11},
		{false, true, 0, 4, 1 << 9},
		{true, true, 0, 6, 1<<9 | 1<<11},
		{false, false, 2, 2, 1 << 11},
		{false, false, 4, 4, 1 << 9},
		{true, false, 4, 6, 1<<9 | 1<<11},
		{false, true, 2, 6, 1<<9 | 1<<11},
	} {
		b := quiet()
		loud(&b, e.line, e.controller)
		b.Plic = api.Plic{Prio: []int{0, 1, 1}, Enable: []int{2, 4}, Threshold: []int{0, 0}, Pending: e.pending}
		left, up := Lines(b)
		want := clone(b)
		want.Plic.Pending = e.want
		if up != e.up || !same(left, want) {
			t.Errorf("%v: %#x, %s", e, up, tell(left))
		}
	}
}

// P13.3: of the line no interrupt comes but where a byte waits and Ie is odd; of the Ethernet controller but where Cause and Mask have a bit both.
func TestLinesDown(t *testing.T) {
	for _, e := range []struct {
		change  func(b *api.Board)
		pending int
	}{
		{func(b *api.Board) { b.Uart.In, b.Uart.Ie = []byte("x"), 2 }, 0},
		{func(b *api.Board) { b.Uart.In, b.Uart.Ie = nil, 3 }, 0},
		{func(b *api.Board) { b.Uart.In, b.Uart.Ie = []byte("xy"), 3 }, 2},
		{func(b *api.Board) { b.Nic.Cause, b.Nic.Mask = 5, 10 }, 0},
		{func(b *api.Board) { b.Nic.Cause, b.Nic.Mask = 8, 12 }, 4},
		{func(b *api.Board) { b.Nic.Cause, b.Nic.Mask, b.Nic.Mac = 8, 12, nil }, 0},
	} {
		b := quiet()
		e.change(&b)
		if left, up := Lines(b); left.Plic.Pending != e.pending || up != 0 {
			t.Errorf("%s: %#x", tell(left), up)
		}
	}
}

// P13.3: what is claimed is not pending again while its line is up, until it is given back.
func TestLinesClaimed(t *testing.T) {
	b := quiet()
	loud(&b, true, false)
	b, _ = Store(b, 0xc000004, 4, 1)
	b, _ = Store(b, 0xc002000, 4, 2)
	b, up := Lines(b)
	if up != 1<<11 {
		t.Fatalf("%#x, %s", up, tell(b))
	}
	x, b, _ := Load(b, 0xc200004, 4)
	b, up = Lines(b)
	if x != 1 || up != 0 || b.Plic.Pending != 0 {
		t.Fatalf("claimed %d: %#x, %s", x, up, tell(b))
	}
	b, _ = Store(b, 0xc200004, 4, 1)
	if _, before := Lines(b); before != 1<<11 {
		t.Errorf("given back: %#x", before)
	}
	_, b, _ = Load(b, 0x10000000, 1)
	if b, up = Lines(b); up != 0 {
		t.Errorf("given back, the line down: %#x, %s", up, tell(b))
	}
}

// P13.3: of an interrupt controller that may not be nothing is told; the timer's are.
func TestLinesWrong(t *testing.T) {
	for _, p := range []api.Plic{{}, {Prio: []int{0, 1, 1}, Pending: 6, Enable: []int{6, 6}, Threshold: []int{0, 8}}} {
		b := quiet()
		loud(&b, true, true)
		b.Clint.Soft, b.Clint.Time = true, 5
		b.Plic = p
		if left, up := Lines(b); up != 1<<3|1<<7 || !same(left, b) {
			t.Errorf("Lines = %#x, %s", up, tell(left))
		}
	}
}

// P13.3: every board, and Lines of what Lines answered, which is the same.
func TestLinesAll(t *testing.T) {
	for _, b := range all() {
		left, up := Lines(clone(b))
		want, is := linesOf(b)
		if up != is || !same(left, want) {
			t.Errorf("Lines of %s = %#x, %s, not %#x, %s", tell(b), up, tell(left), is, tell(want))
		}
		again, upAgain := Lines(left)
		if upAgain != up || !same(again, left) {
			t.Errorf("Lines again = %#x, %s, not %#x, %s", upAgain, tell(again), up, tell(left))
		}
	}
}
