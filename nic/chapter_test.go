package nic

import (
	"bytes"
	"fmt"
	"slices"

	"drawbridge/api"
)

// most is how far Drops and Errors go.
const most = 1 << 31

// checkOf answers what Check has to answer.
func checkOf(n api.Nic) bool {
	for _, c := range []struct{ x, least, greatest int }{
		{len(n.Mac), 6, 6},
		{n.Ctrl, 0, 7},
		{n.Cause, 0, 15},
		{n.Mask, 0, 15},
		{n.TxLen, 1, 64},
		{n.RxLen, 1, 64},
		{n.TxHead, 0, n.TxLen - 1},
		{n.TxTail, 0, n.TxLen - 1},
		{n.RxHead, 0, n.RxLen - 1},
		{n.RxTail, 0, n.RxLen - 1},
		{n.Drops, 0, most},
		{n.Errors, 0, most},
	} {
		if c.x < c.least || c.x > c.greatest {
			return false
		}
	}
	return n.TxBase>>32 == 0 && n.RxBase>>32 == 0
}

// place is one of the fifteen registers: what is loaded there, and what is left when y is stored there.
type place struct {
	name  string
	load  func(n api.Nic) uint64
	store func(n *api.Nic, y uint64)
}

// stays is what is left of a register that is not stored.
func stays(*api.Nic, uint64) {}

// places has them all, in their order.
var places = [15]place{
	{"Ctrl", func(n api.Nic) uint64 { return uint64(n.Ctrl) }, func(n *api.Nic, y uint64) { n.Ctrl = int(y - y/8*8) }},
	{"Cause", func(n api.Nic) uint64 { return uint64(n.Cause) }, clearOf},
	{"Mask", func(n api.Nic) uint64 { return uint64(n.Mask) }, func(n *api.Nic, y uint64) { n.Mask = int(y - y/16*16) }},
	{"TxBase", func(n api.Nic) uint64 { return n.TxBase }, func(n *api.Nic, y uint64) { n.TxBase = y }},
	{"TxLen", func(n api.Nic) uint64 { return uint64(n.TxLen) }, func(n *api.Nic, y uint64) {
		if y != 0 && y < 65 {
			n.TxLen, n.TxHead, n.TxTail = int(y), 0, 0
		}
	}},
	{"TxHead", func(n api.Nic) uint64 { return uint64(n.TxHead) }, stays},
	{"TxTail", func(n api.Nic) uint64 { return uint64(n.TxTail) }, func(n *api.Nic, y uint64) {
		if y < uint64(n.TxLen) {
			n.TxTail = int(y)
		}
	}},
	{"RxBase", func(n api.Nic) uint64 { return n.RxBase }, func(n *api.Nic, y uint64) { n.RxBase = y }},
	{"RxLen", func(n api.Nic) uint64 { return uint64(n.RxLen) }, func(n *api.Nic, y uint64) {
		if y != 0 && y < 65 {
			n.RxLen, n.RxHead, n.RxTail = int(y), 0, 0
		}
	}},
	{"RxHead", func(n api.Nic) uint64 { return uint64(n.RxHead) }, stays},
	{"RxTail", func(n api.Nic) uint64 { return uint64(n.RxTail) }, func(n *api.Nic, y uint64) {
		if y < uint64(n.RxLen) {
			n.RxTail = int(y)
		}
	}},
	{"Drops", func(n api.Nic) uint64 { return uint64(n.Drops) }, stays},
	{"Errors", func(n api.Nic) uint64 { return uint64(n.Errors) }, stays},
	{"Mac's first four", func(n api.Nic) uint64 { return numberOf(n.Mac[0], n.Mac[1], n.Mac[2], n.Mac[3]) }, stays},
	{"Mac's last two", func(n api.Nic) uint64 { return numberOf(n.Mac[4], n.Mac[5]) }, stays},
}

// numberOf answers the number of bytes, the lowest first.
func numberOf(b ...byte) uint64 {
	x := uint64(0)
	for _, one := range slices.Backward(b) {
		x = x*256 + uint64(one)
	}
	return x
}

// has tells whether bit i of x is 1.
func has(x int, i int) bool { return x>>i&1 == 1 }

// clearOf takes the bits that y has from Cause, one by one.
func clearOf(n *api.Nic, y uint64) {
	for i := range 4 {
		if has(n.Cause, i) && y>>i%2 == 1 {
			n.Cause -= 1 << i
		}
	}
}

// causeOf puts bit i into Cause.
func causeOf(n *api.Nic, i int) {
	if !has(n.Cause, i) {
		n.Cause += 1 << i
	}
}

// errorOf counts an error, dropOf a frame that is dropped.
func errorOf(n *api.Nic) {
	if n.Errors != most {
		n.Errors++
	}
	causeOf(n, 2)
}

func dropOf(n *api.Nic) {
	if n.Drops != most {
		n.Drops++
	}
	causeOf(n, 3)
}

// placeAt answers the register at off, and whether there is one of that size.
func placeAt(off uint64, size int) (place, bool) {
	for i, p := range places {
		if off == uint64(4*i) && size == 4 {
			return p, true
		}
	}
	return place{}, false
}

// loadOf answers what Load has to answer.
func loadOf(n api.Nic, off uint64, size int) (uint64, bool) {
	p, ok := placeAt(off, size)
	if !ok || !checkOf(n) {
		return 0, false
	}
	return p.load(n), true
}

// storeOf answers what Store has to answer.
func storeOf(n api.Nic, off uint64, size int, x uint64) (api.Nic, bool) {
	n = copyOf(n)
	p, ok := placeAt(off, size)
	if !ok || !checkOf(n) {
		return n, false
	}
	p.store(&n, x%(1<<32))
	return n, true
}

// upOf answers what Line has to answer.
func upOf(n api.Nic) bool {
	for i := range 4 {
		if checkOf(n) && has(n.Cause, i) && has(n.Mask, i) {
			return true
		}
	}
	return false
}

// spots answers the bytes of memory from at on, each by itself, and true; false, unless all of them are memory. It goes from address to address, so that no sum of at and a number is held against anything.
func spots(r api.Ram, at uint64, count int) ([]*byte, bool) {
	var list []*byte
	for range count {
		if at < api.RamBase || at >= api.RamBase+uint64(len(r.Data)) {
			return nil, false
		}
		list = append(list, &r.Data[at-api.RamBase])
		at++
	}
	return list, true
}

// told answers the bytes that stand at spots.
func told(list []*byte) []byte {
	var b []byte
	for _, p := range list {
		b = append(b, *p)
	}
	return b
}

// sendOf answers what Send has to answer.
func sendOf(n api.Nic, r api.Ram) (api.Nic, api.Ram, []byte, bool) {
	n, r = copyOf(n), ramOf(r)
	if !checkOf(n) || !has(n.Ctrl, 0) || n.TxHead == n.TxTail {
		return n, r, nil, false
	}
	d, ok := spots(r, n.TxBase+uint64(n.TxHead)*16, 16)
	if !ok {
		n.Ctrl--
		errorOf(&n)
		return n, r, nil, true
	}
	was := told(d)
	if was[10]%2 == 0 {
		return n, r, nil, false
	}
	size := int(numberOf(was[8:10]...))
	list, ok := spots(r, numberOf(was[:8]...), size)
	frame := told(list)
	*d[10], *d[11], *d[12], *d[13] = was[10]-1, was[11], 1, 0
	n.TxHead = (n.TxHead + 1) % n.TxLen
	if !ok || size < 14 || size > 1514 {
		*d[12] = 2
		errorOf(&n)
		return n, r, nil, true
	}
	causeOf(&n, 0)
	return n, r, frame, true
}

// takesOf tells whether a frame is one for a controller.
func takesOf(n api.Nic, frame []byte) bool {
	if len(frame) < 14 || len(frame) > 1514 || !has(n.Ctrl, 1) {
		return false
	}
	to := string(frame[:6])
	return to == string(n.Mac) || to == "\xff\xff\xff\xff\xff\xff" || has(n.Ctrl, 2)
}

// receiveOf answers what Receive has to answer.
func receiveOf(n api.Nic, r api.Ram, frame []byte) (api.Nic, api.Ram, bool) {
	n, r = copyOf(n), ramOf(r)
	if !checkOf(n) {
		return n, r, false
	}
	if !takesOf(n, frame) || n.RxHead == n.RxTail {
		dropOf(&n)
		return n, r, false
	}
	d, ok := spots(r, n.RxBase+uint64(n.RxHead)*16, 16)
	if !ok {
		n.Ctrl -= 2
		errorOf(&n)
		dropOf(&n)
		return n, r, false
	}
	was := told(d)
	if was[10]%2 == 0 {
		dropOf(&n)
		return n, r, false
	}
	n.RxHead = (n.RxHead + 1) % n.RxLen
	list, ok := spots(r, numberOf(was[:8]...), len(frame))
	if ok = ok && int(numberOf(was[8:10]...)) >= len(frame); ok {
		*d[8], *d[9] = byte(len(frame)%256), byte(len(frame)/256)
		for i, p := range list {
			*p = frame[i]
		}
		causeOf(&n, 1)
	} else {
		errorOf(&n)
		dropOf(&n)
	}
	*d[10], *d[11], *d[12], *d[13] = was[10]-1, was[11], 1, 0
	if !ok {
		*d[12] = 4
	}
	return n, r, ok
}

// copyOf answers a controller like n that shares nothing with it.
func copyOf(n api.Nic) api.Nic {
	n.Mac = append([]byte(nil), n.Mac...)
	return n
}

// ramOf answers memory like r that shares nothing with it.
func ramOf(r api.Ram) api.Ram { return api.Ram{Data: append([]byte(nil), r.Data...)} }

// same tells whether two controllers are the same; an address that is nil and one that is empty are.
func same(a api.Nic, b api.Nic) bool { return tell(a) == tell(b) }

// sameRam tells whether two memories are the same.
func sameRam(a api.Ram, b api.Ram) bool { return bytes.Equal(a.Data, b.Data) }

// tell answers a controller as a text.
func tell(n api.Nic) string {
	return fmt.Sprintf("{Ctrl %d Cause %d Mask %d Tx %#x %d %d %d Rx %#x %d %d %d Drops %d Errors %d Mac %x}",
		n.Ctrl, n.Cause, n.Mask, n.TxBase, n.TxLen, n.TxHead, n.TxTail, n.RxBase, n.RxLen, n.RxHead, n.RxTail, n.Drops, n.Errors, n.Mac)
}
