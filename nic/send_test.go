package nic

import (
	"bytes"
	"fmt"
	"testing"

	"drawbridge/api"
)

// Where the descriptors of stand's heads are, and the bytes that they name.
const (
	txAt   = base + 0x110
	rxAt   = base + 0x220
	txData = base + 0x400
	rxData = base + 0x800
)

// txDesc and rxDesc are these descriptors: both have flags beside the one that tells whose they are, and a status.
func txDesc() desc { return desc{txData, 60, 0x8421, 0x55aa} }
func rxDesc() desc { return desc{rxData, 1514, 0x7bdf, 0xaa55} }

// stand answers a controller that has a frame to send, and room for one that comes, and its memory.
func stand() (api.Nic, api.Ram) {
	n := api.Nic{
		Ctrl:   3,
		TxBase: base + 0x100, TxLen: 4, TxHead: 1, TxTail: 3,
		RxBase: base + 0x200, RxLen: 4, RxHead: 2, RxTail: 1,
		Mac: hand(),
	}
	r := memory(0x1000)
	putDesc(r, txAt, txDesc())
	putDesc(r, rxAt, rxDesc())
	return n, r
}

// changed answers a controller like n, changed by f.
func changed(n api.Nic, f func(n *api.Nic)) api.Nic {
	n = copyOf(n)
	f(&n)
	return n
}

// written answers memory like r, with bytes at an address.
func written(r api.Ram, at uint64, b ...byte) api.Ram {
	r = ramOf(r)
	put(r, at, b...)
	return r
}

// P12.3, P12.4: a frame that is sent, byte by byte.
func TestSendOne(t *testing.T) {
	n, r := stand()
	left, s, frame, ok := Send(n, r)
	if want := changed(n, func(n *api.Nic) { n.TxHead, n.Cause = 2, 1 }); !same(left, want) || !ok {
		t.Errorf("%s, %v, not %s", tell(left), ok, tell(want))
	}
	if !bytes.Equal(frame, r.Data[0x400:0x400+60]) {
		t.Errorf("frame %s", short(frame))
	}
	if want := written(r, txAt+10, 0x20, 0x84, 1, 0); !sameRam(s, want) {
		t.Errorf("memory%s", diff(s, want))
	}
}

// P12.4: nothing is sent, and all is as it is, where the controller does not send, its ring is empty, or the descriptor is not its own.
func TestSendNothing(t *testing.T) {
	for _, c := range []struct {
		name string
		do   func(n *api.Nic, r *api.Ram)
	}{
		{"Ctrl 0", func(n *api.Nic, _ *api.Ram) { n.Ctrl = 0 }},
		{"Ctrl 2", func(n *api.Nic, _ *api.Ram) { n.Ctrl = 2 }},
		{"Ctrl 4", func(n *api.Nic, _ *api.Ram) { n.Ctrl = 4 }},
		{"Ctrl 6", func(n *api.Nic, _ *api.Ram) { n.Ctrl = 6 }},
		{"head and tail 1", func(n *api.Nic, _ *api.Ram) { n.TxTail = 1 }},
		{"head and tail 0", func(n *api.Nic, _ *api.Ram) { n.TxHead, n.TxTail = 0, 0 }},
		{"head and tail 3", func(n *api.Nic, _ *api.Ram) { n.TxHead, n.TxTail = 3, 3 }},
		{"a ring of one", func(n *api.Nic, _ *api.Ram) { n.TxLen, n.TxHead, n.TxTail = 1, 0, 0 }},
		{"an empty ring that is not memory", func(n *api.Nic, _ *api.Ram) { n.TxBase, n.TxTail = 0, 1 }},
		{"a broken ring that does not send", func(n *api.Nic, _ *api.Ram) { n.TxBase, n.Ctrl = 0, 2 }},
		{"flags 0", func(_ *api.Nic, r *api.Ram) { put(*r, txAt+10, 0, 0) }},
		{"flags 0xfffe", func(_ *api.Nic, r *api.Ram) { put(*r, txAt+10, 0xfe, 0xff) }},
		{"flags 0x100", func(_ *api.Nic, r *api.Ram) { put(*r, txAt+10, 0, 1) }},
		{"not its own, and no frame", func(_ *api.Nic, r *api.Ram) { put(*r, txAt+8, 3, 0, 2, 0) }},
		{"the next one its own", func(_ *api.Nic, r *api.Ram) {
			putDesc(*r, txAt+16, txDesc())
			put(*r, txAt+10, 0, 0)
		}},
	} {
		n, r := stand()
		c.do(&n, &r)
		if left, s, frame, ok := sends(t, n, r); !same(left, n) || !sameRam(s, r) || len(frame) != 0 || ok {
			t.Errorf("%s: %s, %s, %v, memory%s", c.name, tell(left), short(frame), ok, diff(s, r))
		}
	}
}

// P12.4: all that Ctrl may be: it is bit 0 alone that has the controller send, and no bit of it is another then.
func TestSendCtrl(t *testing.T) {
	for ctrl := range 8 {
		n, r := stand()
		n.Ctrl = ctrl
		if left, _, frame, ok := sends(t, n, r); ok != (ctrl%2 == 1) || len(frame) != 60*(ctrl%2) || left.Ctrl != ctrl {
			t.Errorf("Ctrl %d: %s, %s, %v", ctrl, tell(left), short(frame), ok)
		}
	}
}

// P12.4: lengths at their bounds, far from them, and such as are right ones where a byte of them is left out: what is sent, or the error.
func TestSendLengths(t *testing.T) {
	for _, length := range []uint16{0, 1, 6, 12, 13, 14, 15, 60, 255, 256, 257, 1513, 1514, 1515, 1516, 2000, 0x3c00, 0x7fff, 0x8000, 0xff3c, 0xffff} {
		n := api.Nic{Ctrl: 1, TxBase: base + 16, TxLen: 3, TxHead: 1, RxLen: 1, Mac: hand()}
		r := memory(api.MaxRam)
		putDesc(r, base+32, desc{base + 64, length, 1, 0xffff})
		left, s, frame, ok := sends(t, n, r)
		want, status := changed(n, func(n *api.Nic) { n.TxHead, n.Cause = 2, 1 }), byte(1)
		data := r.Data[64 : 64+min(int(length), 60000)]
		if length < 14 || length > 1514 {
			want, status, data = changed(n, func(n *api.Nic) { n.TxHead, n.Cause, n.Errors = 2, 4, 1 }), 2, nil
		}
		if !same(left, want) || !bytes.Equal(frame, data) || !ok {
			t.Errorf("length %d: %s, %s, %v, not %s", length, tell(left), short(frame), ok, tell(want))
		}
		if w := written(r, base+32+10, 0, 0, status, 0); !sameRam(s, w) {
			t.Errorf("length %d: memory%s", length, diff(s, w))
		}
	}
}

// end is just behind the memory of stand.
const end = base + 0x1000

// spans are bytes of memory at its ends.
var spans = []span{{base, 14}, {base, 15}, {base, 200}, {base + 1, 0x21f}, {end - 14, 14}, {end - 15, 15}, {end - 1513, 1513}, {end - 1514, 1514}}

// outside are bytes of which just some, or none, are memory: at its ends, at addresses that are memory's where they are cut to fewer bits, and at the end of the numbers of 64 bits, from where some would come round.
var outside = []span{
	{base - 1, 14}, {base - 13, 14}, {base - 14, 14}, {base - 60, 60}, {base - 1, 1514},
	{end - 13, 14}, {end - 1, 14}, {end, 14}, {end + 1, 60}, {end - 1513, 1514},
	{0, 60}, {1, 60}, {0x400, 60}, {0x800, 60},
	{1<<32 + base, 60}, {1<<32 + base + 0x400, 60}, {1<<32 + base + 0x800, 60}, {1<<63 + base + 0x400, 60}, {1<<63 + base + 0x800, 60},
	{1<<63 - 1, 60}, {1 << 63, 60}, {ones - base, 60}, {ones - 14, 14}, {ones - 13, 14}, {ones, 60}, {ones, 1514},
}

// span is some bytes: where they begin, and how many there are.
type span struct {
	at   uint64
	size int
}

// sendsAt fails unless a frame of these bytes is sent, or is none, as is told.
func sendsAt(t *testing.T, c span, is bool) {
	t.Helper()
	n, r := stand()
	putDesc(r, txAt, desc{c.at, uint16(c.size), 1, 0})
	left, s, frame, ok := sends(t, n, r)
	want, status := changed(n, func(n *api.Nic) { n.TxHead, n.Cause = 2, 1 }), byte(1)
	if !is {
		want, status = changed(n, func(n *api.Nic) { n.TxHead, n.Cause, n.Errors = 2, 4, 1 }), 2
	}
	if !same(left, want) || (len(frame) != 0) != is || !ok {
		t.Errorf("%d at %#x: %s, %s, %v", c.size, c.at, tell(left), short(frame), ok)
	}
	if w := written(r, txAt+10, 0, 0, status, 0); !sameRam(s, w) {
		t.Errorf("%d at %#x: memory%s", c.size, c.at, diff(s, w))
	}
}

// P12.4: frames at memory's ends, half and wholly out of it; and such as are too short, wherever they are.
func TestSendPlaces(t *testing.T) {
	for _, c := range spans {
		sendsAt(t, c, true)
	}
	for _, c := range outside {
		sendsAt(t, c, false)
	}
	for _, c := range []span{{base, 0}, {base, 13}, {end, 0}, {end - 13, 13}, {end + 1, 0}, {ones, 0}, {0, 13}} {
		sendsAt(t, c, false)
	}
}

// P12.3, P12.4: a frame that lies over its descriptor is sent as it was ahead of what is written there.
func TestSendOverItself(t *testing.T) {
	for from := uint64(txAt - 40); from < txAt+20; from++ {
		for _, length := range []uint16{14, 20, 60} {
			n, r := stand()
			putDesc(r, txAt, desc{from, length, 0x1235, 0xabcd})
			_, _, frame, _ := sends(t, n, r)
			if want := r.Data[from-base:][:length]; !bytes.Equal(frame, want) {
				t.Fatalf("%d at %#x: %x, not %x", length, from, frame, want)
			}
		}
	}
}

// P12.3, P12.4: descriptors at each place about memory's ends, wholly in it, half and wholly out: what a broken ring makes, and that memory is as it was.
func TestSendRingPlaces(t *testing.T) {
	for _, size := range []int{1, 15, 16, 17, 31, 32, 100} {
		for head := range 4 {
			for at := uint64(base - 80); at < base+uint64(size)+20; at++ {
				n, r := stand()
				n.TxHead, n.TxTail, n.TxBase = head, (head+1)%4, at
				r = memory(size)
				place := at + 16*uint64(head)
				putDesc(r, place, desc{base, 14, 3, 9})
				left, s, frame, ok := sends(t, n, r)
				if place >= base && place+16 <= base+uint64(size) {
					continue
				}
				want := changed(n, func(n *api.Nic) { n.Ctrl, n.Errors, n.Cause = 2, 1, 4 })
				if !same(left, want) || !sameRam(s, r) || len(frame) != 0 || !ok {
					t.Fatalf("at %#x of %d: %s, %s, %v", place, size, tell(left), short(frame), ok)
				}
			}
		}
	}
}

// broken are rings of 64 descriptors, by their base, whose descriptor of a head is not memory of some size: at the end of 32 bits, from where it would come round, below memory and behind it. Of memory that has no bytes each ring is one.
var broken = []struct {
	at         uint64
	head, size int
}{
	{1<<32 - 1, 63, 0x1000},
	{1<<32 - 1, 0, api.MaxRam},
	{1<<32 - 16, 1, 0x1000},
	{1<<32 - 16, 0, 0x1000},
	{0, 0, 0x1000},
	{0, 63, api.MaxRam},
	{base - 16, 0, 0x1000},
	{base - 16*63 - 16, 63, 0x1000},
	{base - 1, 0, 0x1000},
	{base + 0x1000, 0, 0x1000},
	{base + 0x1000 - 15, 0, 0x1000},
	{base + 0x1000 - 16, 1, 0x1000},
	{base + api.MaxRam, 0, api.MaxRam},
	{base + api.MaxRam - 16*63, 63, api.MaxRam},
	{base, 0, 0},
	{base, 1, 0},
	{0, 0, 0},
}

// P12.3, P12.4: what a broken ring makes; then nothing is sent any more.
func TestSendBroken(t *testing.T) {
	for _, c := range broken {
		n := api.Nic{Ctrl: 7, TxBase: c.at, TxLen: 64, TxHead: c.head, TxTail: (c.head + 5) % 64, RxLen: 1, Mac: hand()}
		r := memory(c.size)
		left, s, frame, ok := sends(t, n, r)
		want := changed(n, func(n *api.Nic) { n.Ctrl, n.Errors, n.Cause = 6, 1, 4 })
		if !same(left, want) || !sameRam(s, r) || len(frame) != 0 || !ok {
			t.Errorf("%#x, %d of %d: %s, %s, %v", c.at, c.head, c.size, tell(left), short(frame), ok)
		}
		if again, _, _, ok := sends(t, left, s); ok || !same(again, left) {
			t.Errorf("%#x, %d of %d: again %s, %v", c.at, c.head, c.size, tell(again), ok)
		}
	}
}

// P12.3, P12.4: heads of rings of each length, the first, the last and all between: which descriptor is done with, and which one is the next.
func TestSendHeads(t *testing.T) {
	for length := 2; length <= 64; length++ {
		r := memory(0x1000)
		for i := range length {
			putDesc(r, base+0x100+16*uint64(i), desc{base + 0x800 + uint64(i), uint16(20 + i), uint16(2*i + 1), 0xffff})
		}
		for head := range length {
			n := api.Nic{Ctrl: 1, TxBase: base + 0x100, TxLen: length, TxHead: head, TxTail: (head + length - 1) % length, RxLen: 1, Mac: hand()}
			left, s, frame, ok := sends(t, n, r)
			if left.TxHead != (head+1)%length || !bytes.Equal(frame, r.Data[0x800+head:0x814+2*head]) || !ok {
				t.Fatalf("head %d of %d: %s, %s, %v", head, length, tell(left), short(frame), ok)
			}
			if want := written(r, base+0x100+16*uint64(head)+10, byte(2*head), 0, 1, 0); !sameRam(s, want) {
				t.Fatalf("head %d of %d: memory%s", head, length, diff(s, want))
			}
		}
	}
}

// P12.3: of the flags all bits stay but the lowest, whatever they are; of the status none does.
func TestSendFlags(t *testing.T) {
	for bit := range 16 {
		for _, flags := range []uint16{1 << bit, 1<<bit | 1, 0xffff - 1<<bit, (0xffff - 1<<bit) | 1} {
			for _, status := range []uint16{0, 1, 2, 0xffff, 0xff00} {
				n, r := stand()
				putDesc(r, txAt, desc{txData, 60, flags, status})
				_, s, _, ok := sends(t, n, r)
				want := ramOf(r)
				if flags%2 == 1 {
					putDesc(want, txAt, desc{txData, 60, flags - 1, 1})
				}
				if !sameRam(s, want) || ok != (flags%2 == 1) {
					t.Errorf("flags %#x: %v, memory%s", flags, ok, diff(s, want))
				}
			}
		}
	}
}

// P12.4: the last two bytes of a descriptor are not looked at.
func TestSendRest(t *testing.T) {
	for _, rest := range [][]byte{{0, 0}, {1, 0}, {0xff, 0xff}, {0, 0x80}} {
		n, r := stand()
		put(r, txAt+14, rest...)
		if _, s, frame, ok := sends(t, n, r); !ok || len(frame) != 60 || !bytes.Equal(s.Data[0x11e:0x120], rest) {
			t.Errorf("%x: %s, %v, %x", rest, short(frame), ok, s.Data[0x11e:0x120])
		}
	}
}

// P12.3, P12.4: Errors just below its bound and at it, and Causes that there were; of an error of the ring and of one of a frame.
func TestSendBounds(t *testing.T) {
	for _, noRing := range []bool{false, true} {
		for _, c := range []struct{ was, want int }{{0, 1}, {1, 2}, {most - 2, most - 1}, {most - 1, most}, {most, most}} {
			for cause := range 16 {
				n, r := stand()
				n.Errors, n.Drops, n.Cause = c.was, 7, cause
				putDesc(r, txAt, desc{txData, 13, 1, 0})
				want := changed(n, func(n *api.Nic) { n.Errors, n.Cause, n.TxHead = c.want, cause|4, 2 })
				if noRing {
					n.TxBase = base - 0x1000
					want = changed(n, func(n *api.Nic) { n.Errors, n.Cause, n.Ctrl = c.want, cause|4, 2 })
				}
				left, _, _, ok := sends(t, n, r)
				if !same(left, want) || !ok || !Check(left) {
					t.Errorf("Errors %d, Cause %d: %s, %v, not %s", c.was, cause, tell(left), ok, tell(want))
				}
			}
		}
	}
	for cause := range 16 {
		n, r := stand()
		n.Errors, n.Drops, n.Cause = most, most, cause
		if left, _, _, _ := sends(t, n, r); left.Cause != cause|1 || left.Errors != most || left.Drops != most {
			t.Errorf("sent with Cause %d: %s", cause, tell(left))
		}
	}
}

// P12.4: all that the guest has put into a ring is sent in order, round about it, until its head is its tail.
func TestSendAll(t *testing.T) {
	n, r := stand()
	n.TxHead, n.TxTail = 2, 1
	for i := range 4 {
		putDesc(r, n.TxBase+16*uint64(i), desc{txData + uint64(i), uint16(14 + i), 1, 0})
	}
	for _, i := range []int{2, 3, 0} {
		left, s, frame, ok := sends(t, n, r)
		if want := r.Data[0x400+i : 0x40e+2*i]; !ok || !bytes.Equal(frame, want) {
			t.Fatalf("of %d: %x, %v, not %x", i, frame, ok, want)
		}
		n, r = left, s
	}
	if left, s, frame, ok := sends(t, n, r); ok || len(frame) != 0 || !same(left, n) || !sameRam(s, r) {
		t.Errorf("behind all: %s, %s, %v", tell(left), short(frame), ok)
	}
	if n.TxHead != 1 || n.Cause != 1 || n.Errors != 0 {
		t.Error(tell(n))
	}
}

// P12.4: Send of memory of all kinds by controllers of all kinds, as chance would have it.
func TestSendByChance(t *testing.T) {
	next := chance()
	done := map[string]int{}
	for range 60000 {
		n, r := byChance(next), memory(next()%300)
		n.Ctrl |= next() % 2
		n.TxBase = base - 20 + uint64(next()%300)
		n.TxHead %= 5
		n.TxLen = max(n.TxLen, 5)
		d := desc{base - 20 + uint64(next()%320), uint16(next() % 80), uint16(next()), uint16(next())}
		if next()%8 == 0 {
			d.address, d.length = uint64(next())<<1, uint16(next())
		}
		putDesc(r, n.TxBase+16*uint64(n.TxHead), d)
		left, _, frame, ok := sends(t, n, r)
		done[fmt.Sprint(ok, len(frame) > 0, left.Ctrl == n.Ctrl)]++
	}
	for _, kind := range []string{"true true true", "true false true", "true false false", "false false true"} {
		if done[kind] < 500 {
			t.Errorf("just %d were %s", done[kind], kind)
		}
	}
}
