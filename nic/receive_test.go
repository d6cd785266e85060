package nic

import (
	"bytes"
	"fmt"
	"slices"
	"testing"

	"drawbridge/api"
)

// P12.3, P12.5: a frame that is received, byte by byte.
func TestReceiveOne(t *testing.T) {
	n, r := stand()
	frame := frameOf(300, hand())
	left, s, ok := receives(t, n, r, frame)
	if want := changed(n, func(n *api.Nic) { n.RxHead, n.Cause = 3, 2 }); !same(left, want) || !ok {
		t.Errorf("%s, %v, not %s", tell(left), ok, tell(want))
	}
	want := written(r, rxAt+8, 0x2c, 0x01, 0xde, 0x7b, 1, 0)
	if want = written(want, rxData, frame...); !sameRam(s, want) {
		t.Errorf("memory%s", diff(s, want))
	}
}

// isDropped fails unless a frame is dropped, with memory as it is, and nothing told but that.
func isDropped(t *testing.T, name string, n api.Nic, r api.Ram, frame []byte) {
	t.Helper()
	left, s, ok := receives(t, n, r, frame)
	want := changed(n, func(n *api.Nic) { n.Drops, n.Cause = n.Drops+1, n.Cause|8 })
	if !same(left, want) || !sameRam(s, r) || ok {
		t.Errorf("%s: %s, %v, not %s, memory%s", name, tell(left), ok, tell(want), diff(s, r))
	}
}

// isTaken fails unless a frame is received.
func isTaken(t *testing.T, name string, n api.Nic, r api.Ram, frame []byte) {
	t.Helper()
	left, s, ok := receives(t, n, r, frame)
	want := changed(n, func(n *api.Nic) { n.RxHead, n.Cause = (n.RxHead+1)%n.RxLen, n.Cause|2 })
	if !same(left, want) || sameRam(s, r) || !ok {
		t.Errorf("%s: %s, %v, not %s", name, tell(left), ok, tell(want))
	}
}

// P12.5: frames of sizes at their bounds, and far from them.
func TestReceiveSizes(t *testing.T) {
	for _, size := range []int{0, 1, 5, 6, 12, 13, 14, 15, 60, 255, 256, 257, 1513, 1514, 1515, 1516, 4000, 65535, 65536, 65536 + 14, 65536 + 60} {
		n, r := stand()
		r = memory(api.MaxRam)
		putDesc(r, rxAt, desc{rxData, 0xffff, 1, 0})
		frame := frameOf(size, everyone())
		name := fmt.Sprint(size, " bytes")
		if size < 14 || size > 1514 {
			isDropped(t, name, n, r, frame)
			n.Ctrl = 7
			isDropped(t, name, n, r, frame)
			continue
		}
		isTaken(t, name, n, r, frame)
		_, s, _ := Receive(n, r, frame)
		want := written(r, rxAt+8, byte(size), byte(size/256), 0, 0, 1, 0)
		if want = written(want, rxData, frame...); !sameRam(s, want) {
			t.Errorf("%s: memory%s", name, diff(s, want))
		}
	}
	n, r := stand()
	isDropped(t, "nil", n, r, nil)
}

// P12.5: frames for the controller, for all, and for others, whoever they are from; and whom it takes when it takes all.
func TestReceiveAddresses(t *testing.T) {
	macs := []struct {
		mac  []byte
		mine bool
	}{{hand(), true}, {everyone(), true}, {make([]byte, 6), false}, {[]byte{0x56, 0x34, 0x12, 0x00, 0x54, 0x52}, false}}
	for i := range 6 {
		for bit := range 8 {
			near, all := hand(), everyone()
			near[i] ^= 1 << bit
			all[i] ^= 1 << bit
			macs = append(macs, struct {
				mac  []byte
				mine bool
			}{near, false}, struct {
				mac  []byte
				mine bool
			}{all, false})
		}
	}
	for _, c := range macs {
		for ctrl := range 8 {
			for _, from := range [][]byte{hand(), everyone(), {1, 2, 3, 4, 5, 6}} {
				n, r := stand()
				n.Ctrl = ctrl
				frame := frameOf(60, slices.Concat(c.mac, from))
				name := fmt.Sprintf("to %x, Ctrl %d", c.mac, ctrl)
				if ctrl&2 != 0 && (c.mine || ctrl&4 != 0) {
					isTaken(t, name, n, r, frame)
				} else {
					isDropped(t, name, n, r, frame)
				}
			}
		}
	}
}

// P12.5: a controller's own address may be any: of all 0xff, of noughts.
func TestReceiveOwnAddress(t *testing.T) {
	for _, mac := range [][]byte{everyone(), make([]byte, 6), {1, 2, 3, 4, 5, 6}, {0xff, 0xff, 0xff, 0xff, 0xff, 0xfe}} {
		n, r := stand()
		n.Mac = mac
		isTaken(t, "its own", n, r, frameOf(60, mac))
		isTaken(t, "that of all", n, r, frameOf(60, everyone()))
		isDropped(t, "another", n, r, frameOf(60, hand()))
	}
}

// P12.5: dropped for want of room: an empty ring, wherever its head and its tail are, and a descriptor that is not the controller's.
func TestReceiveNoDescriptor(t *testing.T) {
	for head := range 4 {
		n, r := stand()
		n.RxHead, n.RxTail = head, head
		isDropped(t, fmt.Sprint("head and tail ", head), n, r, frameOf(60, hand()))
		n.RxBase = 0
		isDropped(t, fmt.Sprint("head and tail ", head, " of no memory"), n, r, frameOf(60, hand()))
	}
	for _, flags := range []uint16{0, 2, 0xfffe, 0x100, 0x8000} {
		for _, length := range []uint16{0, 59, 60, 1514} {
			n, r := stand()
			putDesc(r, rxAt, desc{rxData, length, flags, 1})
			putDesc(r, rxAt+16, rxDesc())
			isDropped(t, fmt.Sprintf("flags %#x", flags), n, r, frameOf(60, hand()))
			putDesc(r, rxAt, desc{ones, length, flags, 1})
			isDropped(t, fmt.Sprintf("flags %#x, out of memory", flags), n, r, frameOf(60, hand()))
		}
	}
}

// noRoom fails unless the descriptor of rxAt is done with as one that is too small.
func noRoom(t *testing.T, name string, n api.Nic, r api.Ram, frame []byte) {
	t.Helper()
	left, s, ok := receives(t, n, r, frame)
	want := changed(n, func(n *api.Nic) {
		n.RxHead, n.Cause, n.Errors, n.Drops = (n.RxHead+1)%n.RxLen, n.Cause|12, n.Errors+1, n.Drops+1
	})
	if !same(left, want) || ok {
		t.Errorf("%s: %s, %v, not %s", name, tell(left), ok, tell(want))
	}
	flags := numberOf(r.Data[rxAt-base+10], r.Data[rxAt-base+11]) - 1
	if w := written(r, rxAt+10, byte(flags), byte(flags>>8), 4, 0); !sameRam(s, w) {
		t.Errorf("%s: memory%s", name, diff(s, w))
	}
}

// P12.5: lengths just below a frame's, at it and above it, and such as are enough where a byte of them is left out.
func TestReceiveLengths(t *testing.T) {
	for _, size := range []int{14, 15, 60, 255, 256, 257, 1513, 1514} {
		for _, length := range []int{0, 1, 13, size - 2, size - 1, size, size + 1, 255, 256, 1514, 1515, 0x7fff, 0x8000, 0xff00, 0xffff} {
			n, r := stand()
			putDesc(r, rxAt, desc{rxData, uint16(length), 0x0101, 0x1234})
			name := fmt.Sprint(size, " bytes in ", length)
			if length < size {
				noRoom(t, name, n, r, frameOf(size, hand()))
			} else {
				isTaken(t, name, n, r, frameOf(size, hand()))
			}
		}
	}
}

// P12.5: buffers at memory's ends, half and wholly out of it; it is the frame's bytes that have to be memory, not all of the length.
func TestReceivePlaces(t *testing.T) {
	for _, inside := range []bool{true, false} {
		list := spans
		if !inside {
			list = outside
		}
		for _, c := range list {
			for _, length := range []uint16{uint16(c.size), 0xffff} {
				n, r := stand()
				putDesc(r, rxAt, desc{c.at, length, 0xfff1, 0})
				name, frame := fmt.Sprintf("%d of %d at %#x", c.size, length, c.at), frameOf(c.size, hand())
				if !inside {
					noRoom(t, name, n, r, frame)
					continue
				}
				isTaken(t, name, n, r, frame)
				_, s, _ := Receive(n, r, frame)
				if got := s.Data[c.at-base:][:c.size]; !bytes.Equal(got, frame) {
					t.Errorf("%s: %s", name, short(got))
				}
			}
		}
	}
}

// P12.5: a buffer that lies over the descriptor itself: over its address, its length, its flags, its status, at each place. Flags and status stand there in the end, the frame else.
func TestReceiveOverItself(t *testing.T) {
	for from := uint64(rxAt - 30); from < rxAt+20; from++ {
		for size := 14; size < 40; size++ {
			n, r := stand()
			putDesc(r, rxAt, desc{from, 100, 0x9b3d, 0xabcd})
			frame := frameOf(size, hand())
			left, s, ok := receives(t, n, r, frame)
			want := written(r, rxAt+8, byte(size), 0)
			want = written(want, from, frame...)
			want = written(want, rxAt+10, 0x3c, 0x9b, 1, 0)
			if !sameRam(s, want) || left.RxHead != 3 || !ok {
				t.Fatalf("%d at %#x: %s, %v, memory%s", size, from, tell(left), ok, diff(s, want))
			}
		}
	}
}

// P12.5: a frame over the whole descriptor, told byte by byte: of the address and the length the frame's bytes stay, of the flags those that were read, but for bit 0.
func TestReceiveOverAll(t *testing.T) {
	n, r := stand()
	putDesc(r, rxAt, desc{rxAt, 60, 0x9b3d, 0xabcd})
	frame := frameOf(20, everyone())
	_, s, ok := receives(t, n, r, frame)
	want := slices.Concat(frame[:10], []byte{0x3c, 0x9b, 1, 0}, frame[14:])
	if got := s.Data[rxAt-base:][:20]; !bytes.Equal(got, want) || !ok {
		t.Errorf("%x, %v, not %x", got, ok, want)
	}
}

// P12.5: a buffer that lies over other descriptors of the ring, and over the ring that sends, is written whole; the next descriptor is what the frame made of it.
func TestReceiveOverOthers(t *testing.T) {
	n, r := stand()
	frame := frameOf(200, hand())
	next := r.Data[0x340:0x350] // what the frame has where the next descriptor is
	putDesc(api.Ram{Data: next}, base, desc{rxData, 60, 1, 0})
	copy(frame[0x30:], next)
	putDesc(r, rxAt, desc{rxAt + 16 - 0x30, 200, 1, 0})
	left, s, ok := receives(t, n, r, frame)
	if !ok || !bytes.Equal(s.Data[rxAt+16-base:][:16], next) {
		t.Fatalf("%s, %v", tell(left), ok)
	}
	left.RxTail = 1
	isTaken(t, "the next one", left, s, frameOf(60, hand()))
}

// P12.3, P12.5: descriptors at each place about memory's ends: what a broken ring makes, and that memory is as it was.
func TestReceiveRingPlaces(t *testing.T) {
	for _, size := range []int{1, 15, 16, 17, 31, 32, 100} {
		for head := range 4 {
			for at := uint64(base - 80); at < base+uint64(size)+20; at++ {
				n, r := stand()
				n.RxHead, n.RxTail, n.RxBase = head, (head+1)%4, at
				r = memory(size)
				place := at + 16*uint64(head)
				putDesc(r, place, desc{base, 14, 3, 9})
				left, s, ok := receives(t, n, r, frameOf(14, hand()))
				if place >= base && place+16 <= base+uint64(size) {
					continue
				}
				want := changed(n, func(n *api.Nic) { n.Ctrl, n.Errors, n.Drops, n.Cause = 1, 1, 1, 12 })
				if !same(left, want) || !sameRam(s, r) || ok {
					t.Fatalf("at %#x of %d: %s, %v", place, size, tell(left), ok)
				}
			}
		}
	}
}

// P12.3, P12.5: what a broken ring makes; a frame that comes then is dropped, and no error.
func TestReceiveBroken(t *testing.T) {
	for _, c := range broken {
		n := api.Nic{Ctrl: 7, RxBase: c.at, RxLen: 64, RxHead: c.head, RxTail: (c.head + 5) % 64, TxLen: 1, Mac: hand()}
		r := memory(c.size)
		left, s, ok := receives(t, n, r, frameOf(60, hand()))
		want := changed(n, func(n *api.Nic) { n.Ctrl, n.Errors, n.Drops, n.Cause = 5, 1, 1, 12 })
		if !same(left, want) || !sameRam(s, r) || ok {
			t.Errorf("%#x, %d of %d: %s, %v", c.at, c.head, c.size, tell(left), ok)
		}
		isDropped(t, "again", left, s, frameOf(60, hand()))
	}
}

// P12.5: a frame that is none, or not for the controller, does not have a broken ring told.
func TestReceiveBrokenUnseen(t *testing.T) {
	n, r := stand()
	n.RxBase = 0
	for name, frame := range map[string][]byte{"too short": frameOf(13, hand()), "too long": frameOf(1515, hand()), "another's": frameOf(60, nil), "none": nil} {
		isDropped(t, name, n, r, frame)
	}
	n.Ctrl = 5
	isDropped(t, "it does not receive", n, r, frameOf(60, hand()))
}

// P12.3, P12.5: heads of rings of each length, the first, the last and all between: which descriptor is done with, and which one is the next; of frames that are received, and of those that there is no room for.
func TestReceiveHeads(t *testing.T) {
	for length := 2; length <= 64; length++ {
		r := memory(0x1000)
		for i := range length {
			putDesc(r, base+0x100+16*uint64(i), desc{base + 0x800 + uint64(i), 40, uint16(2*i + 1), 0xffff})
		}
		for head := range length {
			n := api.Nic{Ctrl: 2, RxBase: base + 0x100, RxLen: length, RxHead: head, RxTail: (head + length - 1) % length, TxLen: 1, Mac: hand()}
			at := base + 0x100 + 16*uint64(head)
			for _, size := range []int{20, 41} {
				left, s, ok := receives(t, n, r, frameOf(size, hand()))
				want := written(r, at+10, byte(2*head), 0, 4, 0)
				if size == 20 {
					want = written(r, at+8, 20, 0, byte(2*head), 0, 1, 0)
					want = written(want, base+0x800+uint64(head), frameOf(size, hand())...)
				}
				if left.RxHead != (head+1)%length || ok != (size == 20) || !sameRam(s, want) {
					t.Fatalf("head %d of %d: %s, %v, memory%s", head, length, tell(left), ok, diff(s, want))
				}
			}
		}
	}
}

// P12.3: of the flags all bits stay but the lowest, whatever they are; of the status none does; the last two bytes are not looked at.
func TestReceiveFlags(t *testing.T) {
	for bit := range 16 {
		for _, flags := range []uint16{1<<bit | 1, (0xffff - 1<<bit) | 1} {
			for _, status := range []uint16{0, 1, 4, 0xffff, 0xff00} {
				for _, size := range []int{60, 61} {
					n, r := stand()
					putDesc(r, rxAt, desc{rxData, 60, flags, status})
					put(r, rxAt+14, byte(bit), byte(status))
					_, s, ok := receives(t, n, r, frameOf(size, hand()))
					want := ramOf(r)
					if size == 60 {
						putDesc(want, rxAt, desc{rxData, 60, flags - 1, 1})
						put(want, rxData, frameOf(60, hand())...)
					} else {
						putDesc(want, rxAt, desc{rxData, 60, flags - 1, 4})
					}
					if !sameRam(s, want) || ok != (size == 60) {
						t.Errorf("flags %#x: %v, memory%s", flags, ok, diff(s, want))
					}
				}
			}
		}
	}
}

// P12.3, P12.5: Drops and Errors just below their bound and at it, and Causes that there were, of each way in which a frame does not come.
func TestReceiveBounds(t *testing.T) {
	counts := []struct{ was, one int }{{0, 1}, {1, 2}, {most - 2, most - 1}, {most - 1, most}, {most, most}}
	for i, errors := range counts {
		for j, drops := range counts {
			for cause := range 16 {
				n, r := stand()
				n.Errors, n.Drops, n.Cause = errors.was, drops.was, cause
				dropped := changed(n, func(n *api.Nic) { n.Drops, n.Cause = drops.one, cause|8 })
				failed := changed(n, func(n *api.Nic) { n.Drops, n.Errors, n.Cause = drops.one, errors.one, cause|12 })
				name := fmt.Sprintf("Errors %d, Drops %d, Cause %d", i, j, cause)
				leads := func(n api.Nic, size int, want api.Nic) {
					t.Helper()
					if left, _, _ := receives(t, n, r, frameOf(size, hand())); !same(left, want) || !Check(left) {
						t.Errorf("%s: %s, not %s", name, tell(left), tell(want))
					}
				}
				leads(n, 13, dropped)
				leads(n, 60, changed(n, func(n *api.Nic) { n.RxHead, n.Cause = 3, cause|2 }))
				leads(changed(n, func(n *api.Nic) { n.RxTail = 2 }), 60, changed(dropped, func(n *api.Nic) { n.RxTail = 2 }))
				leads(changed(n, func(n *api.Nic) { n.RxBase = 0 }), 60, changed(failed, func(n *api.Nic) { n.RxBase, n.Ctrl = 0, 1 }))
				put(r, rxAt+8, 59, 0)
				leads(n, 60, changed(failed, func(n *api.Nic) { n.RxHead = 3 }))
				put(r, rxAt+10, 0)
				leads(n, 60, dropped)
			}
		}
	}
}

// P12.5: frames come in order, into one descriptor each, round about the ring, until its head is its tail; then they are dropped.
func TestReceiveAll(t *testing.T) {
	n, r := stand()
	for i := range 4 {
		putDesc(r, n.RxBase+16*uint64(i), desc{rxData + 100*uint64(i), 60, 1, 0})
	}
	for k, i := range []int{2, 3, 0} {
		frame := frameOf(20+k, everyone())
		left, s, ok := receives(t, n, r, frame)
		if got := s.Data[0x800+100*i:][:20+k]; !bytes.Equal(got, frame) || !ok {
			t.Fatalf("into %d: %x, %v", i, got, ok)
		}
		n, r = left, s
	}
	if n.RxHead != 1 || n.Cause != 2 || n.Drops != 0 || n.Errors != 0 {
		t.Error(tell(n))
	}
	isDropped(t, "behind all", n, r, frameOf(60, hand()))
}

// P12.5: Receive of frames of all kinds by controllers of all kinds, as chance would have it.
func TestReceiveByChance(t *testing.T) {
	next := chance()
	done := map[string]int{}
	for range 60000 {
		n, r := byChance(next), memory(next()%300)
		n.Ctrl |= next() % 4
		n.RxBase = base - 20 + uint64(next()%300)
		n.RxHead %= 5
		n.RxLen = max(n.RxLen, 5)
		d := desc{base - 20 + uint64(next()%320), uint16(next() % 80), uint16(next()), uint16(next())}
		if next()%8 == 0 {
			d.address, d.length = uint64(next())<<1, uint16(next())
		}
		putDesc(r, n.RxBase+16*uint64(n.RxHead), d)
		to := [][]byte{n.Mac, n.Mac, everyone(), hand()}[next()%4]
		left, _, ok := receives(t, n, r, frameOf(next()%70, to))
		done[fmt.Sprint(ok, left.Errors != n.Errors, left.Ctrl == n.Ctrl)]++
	}
	for _, kind := range []string{"true false true", "false false true", "false true true", "false true false"} {
		if done[kind] < 500 {
			t.Errorf("just %d were %s", done[kind], kind)
		}
	}
}
