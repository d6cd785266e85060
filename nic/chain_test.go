package nic

import (
	"bytes"
	"testing"

	"drawbridge/api"
)

// Where the guest of this file has its rings, of as many descriptors, and how many bytes of memory there are.
const (
	guestTx   = base + 0x40
	guestRx   = base + 0x100
	guestRing = 6
	guestRam  = 0x400
)

// stores answers the controller behind a Store that has to be done.
func stores(t *testing.T, n api.Nic, off uint64, x uint64) api.Nic {
	t.Helper()
	left, ok := Store(n, off, 4, x)
	if want, _ := storeOf(n, off, 4, x); !ok || !same(left, want) {
		t.Fatalf("Store(%s, %d, %#x) = %s, %v", tell(n), off, x, tell(left), ok)
	}
	return left
}

// begun answers a controller whose rings a guest has laid, by stores alone.
func begun(t *testing.T) api.Nic {
	t.Helper()
	n, e := New(hand())
	if e != api.OK {
		t.Fatal(e)
	}
	for _, s := range []struct{ off, x uint64 }{{12, guestTx}, {16, guestRing}, {28, guestRx}, {32, guestRing}, {8, 15}, {0, 3}} {
		n = stores(t, n, s.off, s.x)
	}
	return n
}

// loads answers what is loaded of a register.
func loads(t *testing.T, n api.Nic, off uint64) uint64 {
	t.Helper()
	x, ok := Load(n, off, 4)
	if !ok {
		t.Fatalf("Load(%s, %d)", tell(n), off)
	}
	return x
}

// P12.2 to P12.5: a guest that sends and receives frames by registers and descriptors alone, and is told by the line.
func TestGuest(t *testing.T) {
	n, r := begun(t), memory(guestRam)
	sent, came := 0, 0
	for i := range 50 {
		tail := loads(t, n, 24)
		putDesc(r, guestTx+16*tail, desc{base + 0x200 + uint64(i), uint16(14 + i), 1, 0})
		n = stores(t, n, 24, (tail+1)%guestRing)
		data := bytes.Clone(r.Data[0x200+i : 0x20e+2*i])
		left, s, frame, ok := sends(t, n, r)
		if !ok || !bytes.Equal(frame, data) || !Line(left) || loads(t, left, 4)&1 == 0 {
			t.Fatalf("frame %d: %x, %v, %s", i, frame, ok, tell(left))
		}
		n, r = stores(t, left, 4, 1), s
		sent++

		tail = loads(t, n, 40)
		putDesc(r, guestRx+16*tail, desc{base + 0x300, 100, 1, 0})
		n = stores(t, n, 40, (tail+1)%guestRing)
		left, s, ok = receives(t, n, r, frameOf(14+i, hand()))
		got, _ := spots(s, base+0x300, int(numberOf(s.Data[guestRx-base+16*tail+8], s.Data[guestRx-base+16*tail+9])))
		if !ok || !bytes.Equal(told(got), frameOf(14+i, hand())) || !Line(left) || loads(t, left, 4)&2 == 0 {
			t.Fatalf("frame %d: %x, %v, %s", i, told(got), ok, tell(left))
		}
		n, r = stores(t, left, 4, 2), s
		came++
		if Line(n) {
			t.Fatalf("behind frame %d the line is up: %s", i, tell(n))
		}
	}
	if loads(t, n, 20) != uint64(sent%guestRing) || loads(t, n, 36) != uint64(came%guestRing) || n.Drops != 0 || n.Errors != 0 {
		t.Error(tell(n))
	}
}

// P12.3: behind a broken ring the controller sends, or receives, again when the guest has put it right.
func TestMended(t *testing.T) {
	n, r := begun(t), memory(guestRam)
	putDesc(r, guestTx, desc{base + 0x200, 60, 1, 0})
	putDesc(r, guestRx, desc{base + 0x300, 60, 1, 0})
	n = stores(t, stores(t, n, 24, 1), 40, 1)
	n = stores(t, stores(t, n, 12, 0x1000), 28, base+guestRam-8)
	n, r, _, _ = sends(t, n, r)
	n, r, _ = receives(t, n, r, frameOf(60, hand()))
	if n.Ctrl != 0 || n.Errors != 2 || n.Drops != 1 || n.Cause != 12 {
		t.Fatal(tell(n))
	}
	n = stores(t, stores(t, n, 12, guestTx), 28, guestRx)
	if _, _, _, ok := sends(t, n, r); ok {
		t.Error("it sends, though it may not")
	}
	n = stores(t, n, 0, 3)
	n, r, frame, ok := sends(t, n, r)
	if !ok || len(frame) != 60 || n.TxHead != 1 {
		t.Errorf("%s, %s, %v", tell(n), short(frame), ok)
	}
	isTaken(t, "mended", n, r, frameOf(60, hand()))
}

// seen is which bytes of memory a call may change: those of a buffer, and of a descriptor that was the controller's.
type seen map[uint64]bool

// add has n bytes from at on be among them.
func (s seen) add(at uint64, n int) {
	for i := range uint64(n) {
		s[at+i] = true
	}
}

// mayChange answers what Send or Receive may change, going by the descriptor at a place alone; of Receive its length and its buffer, too.
func mayChange(r api.Ram, at uint64, receive bool) seen {
	s := seen{}
	d, ok := spots(r, at, 16)
	if !ok || *d[10]%2 == 0 {
		return s
	}
	b := told(d)
	s.add(at+10, 4)
	if receive {
		s.add(at+8, 2)
		s.add(numberOf(b[:8]...), int(numberOf(b[8:10]...)))
	}
	return s
}

// only fails unless nothing of memory is another but what may be.
func only(t *testing.T, s seen, was api.Ram, r api.Ram) {
	t.Helper()
	if len(was.Data) != len(r.Data) {
		t.Fatalf("%d bytes of memory, not %d", len(r.Data), len(was.Data))
	}
	for i := range r.Data {
		if r.Data[i] != was.Data[i] && !s[base+uint64(i)] {
			t.Fatalf("[%#x] is %#x, not %#x", i, r.Data[i], was.Data[i])
		}
	}
}

// guest has the guest do something, as chance would have it: it lays a descriptor, right or wrong, or stores.
func guest(t *testing.T, next func() int, n api.Nic, r api.Ram) (api.Nic, api.Ram) {
	t.Helper()
	switch next() % 8 {
	case 0:
		off, x := uint64(next()%15*4), uint64(next()%8)
		switch next() % 12 {
		case 0:
			x = uint64(next())
		case 1:
			off, x = []uint64{12, 28}[next()%2], base+uint64(next()%guestRam)
		}
		return stores(t, n, off, x), r
	case 1:
		for _, s := range []struct{ off, x uint64 }{{0, uint64(next())}, {12, guestTx}, {28, guestRx}, {16, guestRing}, {32, guestRing}, {0, uint64(next()%4) | 3}} {
			n = stores(t, n, s.off, s.x)
		}
		return n, r
	case 2, 3, 4:
		r = ramOf(r)
		at := n.TxBase + 16*uint64(n.TxTail)
		putDesc(r, at, desc{base + uint64(next()%guestRam), uint16(next() % 200), uint16(next() % 4), 0})
		return stores(t, n, 24, uint64(n.TxTail+1)%uint64(n.TxLen)), r
	}
	r = ramOf(r)
	at := n.RxBase + 16*uint64(n.RxTail)
	putDesc(r, at, desc{base + uint64(next()%guestRam), uint16(next() % 200), uint16(next() % 4), 0})
	return stores(t, n, 40, uint64(n.RxTail+1)%uint64(n.RxLen)), r
}

// P12.1 to P12.6: many calls, one behind the other: controller and memory are each time what the chapter makes of them, may be, and no byte is another but those that may be; what was answered earlier stays as it was.
func TestManyCalls(t *testing.T) {
	next := chance()
	n, r := begun(t), memory(guestRam)
	var answers, copies []answer
	done := map[string]int{}
	for range 100000 {
		var frame []byte
		var ok bool
		was := r
		switch next() % 6 {
		case 0, 1, 2, 3:
			n, r = guest(t, next, n, r)
			continue
		case 4:
			may := mayChange(r, n.TxBase+16*uint64(n.TxHead), false)
			n, r, frame, ok = sends(t, n, r)
			only(t, may, was, r)
			if ok && len(frame) > 0 {
				done["sent"]++
			}
		case 5:
			may := mayChange(r, n.RxBase+16*uint64(n.RxHead), true)
			to := [][]byte{hand(), everyone(), nil}[next()%3]
			n, r, ok = receives(t, n, r, frameOf(next()%120, to))
			only(t, may, was, r)
			if ok {
				done["received"]++
			}
		}
		if !Check(n) {
			t.Fatalf("%s may not be", tell(n))
		}
		if len(answers) < 3000 {
			answers = append(answers, answer{n, r, frame, ok})
			copies = append(copies, answer{copyOf(n), ramOf(r), bytes.Clone(frame), ok})
		}
	}
	for i := range answers {
		if a, c := answers[i], copies[i]; !same(a.n, c.n) || !sameRam(a.r, c.r) || !bytes.Equal(a.frame, c.frame) {
			t.Fatalf("answer %d is another by now", i)
		}
	}
	if done["sent"] < 1000 || done["received"] < 1000 || n.Errors < 100 || n.Drops < 100 {
		t.Errorf("just %v, %s", done, tell(n))
	}
}

// P12.6: memory of which each byte is watched: of all descriptors and buffers that there are about memory's ends no call changes another byte than those that it may.
func TestOnlyWhatMay(t *testing.T) {
	next := chance()
	for range 30000 {
		n, r := begun(t), memory(120)
		n.TxTail, n.RxTail = 1, 1
		n.TxBase, n.RxBase = base+uint64(next()%130)-10, base+uint64(next()%130)-10
		putDesc(r, n.TxBase, desc{base + uint64(next()%140) - 10, uint16(next() % 60), uint16(next()), uint16(next())})
		putDesc(r, n.RxBase, desc{base + uint64(next()%140) - 10, uint16(next() % 60), uint16(next()), uint16(next())})
		_, s, _, _ := Send(n, r)
		only(t, mayChange(r, n.TxBase, false), r, s)
		_, s, _ = Receive(n, r, frameOf(14+next()%50, everyone()))
		only(t, mayChange(r, n.RxBase, true), r, s)
	}
}
