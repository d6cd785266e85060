package nic

import (
	"fmt"
	"math"
	"slices"
	"testing"

	"drawbridge/api"
)

// base is where memory begins, ones a number of all bits.
const (
	base = api.RamBase
	ones = math.MaxUint64
)

// hand is the address of a hand-made controller.
func hand() []byte { return []byte{0x52, 0x54, 0x00, 0x12, 0x34, 0x56} }

// everyone is the address of all.
func everyone() []byte { return []byte{0xff, 0xff, 0xff, 0xff, 0xff, 0xff} }

// full answers a controller each of whose numbers is another, and may be.
func full() api.Nic {
	return api.Nic{
		Ctrl: 3, Cause: 5, Mask: 10,
		TxBase: 0x80000100, TxLen: 7, TxHead: 1, TxTail: 6,
		RxBase: 0x80000200, RxLen: 9, RxHead: 2, RxTail: 8,
		Drops: 11, Errors: 12, Mac: hand(),
	}
}

// with answers a controller like full, changed by f.
func with(f func(n *api.Nic)) api.Nic {
	n := full()
	f(&n)
	return n
}

// some are controllers that may be: with nothing, with everything, and such as tell their numbers apart.
func some() []api.Nic {
	fresh, _ := New(hand())
	list := []api.Nic{
		fresh,
		full(),
		{
			Ctrl: 7, Cause: 15, Mask: 15,
			TxBase: 1<<32 - 1, TxLen: 64, TxHead: 63, TxTail: 63,
			RxBase: 1<<32 - 1, RxLen: 64, RxHead: 63, RxTail: 63,
			Drops: most, Errors: most, Mac: everyone(),
		},
		with(func(n *api.Nic) { n.Drops, n.Errors = most-1, most }),
		with(func(n *api.Nic) { n.Drops, n.Errors = most, most-1 }),
		with(func(n *api.Nic) { n.Mac = []byte{0x80, 1, 0xfe, 0x81, 0x7f, 0xc3} }),
	}
	next := chance()
	for range 24 {
		list = append(list, byChance(next))
	}
	return list
}

// byChance answers a controller that may be.
func byChance(next func() int) api.Nic {
	n := api.Nic{
		Ctrl: next() % 8, Cause: next() % 16, Mask: next() % 16,
		TxBase: uint64(next() % (1 << 32)), TxLen: next()%64 + 1,
		RxBase: uint64(next() % (1 << 32)), RxLen: next()%64 + 1,
		Drops: next() % (most + 1), Errors: next() % (most + 1),
	}
	n.TxHead, n.TxTail = next()%n.TxLen, next()%n.TxLen
	n.RxHead, n.RxTail = next()%n.RxLen, next()%n.RxLen
	for range 6 {
		n.Mac = append(n.Mac, byte(next()))
	}
	return n
}

// wrongOnes are controllers that may not be, each by one thing alone, by what that is.
func wrongOnes() map[string]api.Nic {
	list := map[string]api.Nic{"all zero": {}}
	put := func(name string, f func(n *api.Nic)) { list[name] = with(f) }
	for _, size := range []int{0, 1, 4, 5, 7, 8, 12, 262} {
		put(fmt.Sprint("Mac of ", size), func(n *api.Nic) { n.Mac = append(hand(), make([]byte, 300)...)[:size] })
	}
	put("Mac nil", func(n *api.Nic) { n.Mac = nil })
	for _, x := range []int{-1, -8, 8, 9, 16, 256, 1<<32 + 1, math.MinInt, math.MinInt + 3, math.MaxInt} {
		put(fmt.Sprint("Ctrl ", x), func(n *api.Nic) { n.Ctrl = x })
	}
	for _, x := range []int{-1, -16, 16, 17, 31, 256, 1<<32 + 5, math.MinInt, math.MinInt + 5, math.MaxInt} {
		put(fmt.Sprint("Cause ", x), func(n *api.Nic) { n.Cause = x })
		put(fmt.Sprint("Mask ", x), func(n *api.Nic) { n.Mask = x })
	}
	for _, x := range []uint64{1 << 32, 1<<32 + 1, 1<<32 + base, 1<<63 + base, 1 << 63, ones - 15, ones} {
		put(fmt.Sprint("TxBase ", x), func(n *api.Nic) { n.TxBase = x })
		put(fmt.Sprint("RxBase ", x), func(n *api.Nic) { n.RxBase = x })
	}
	for _, x := range []int{-1, -64, 65, 66, 128, 256 + 9, 1<<32 + 9, math.MinInt, math.MinInt + 9, math.MaxInt} {
		put(fmt.Sprint("TxLen ", x), func(n *api.Nic) { n.TxLen = x })
		put(fmt.Sprint("RxLen ", x), func(n *api.Nic) { n.RxLen = x })
	}
	for _, x := range []int{0, -1} {
		put(fmt.Sprint("TxLen, TxHead, TxTail ", x), func(n *api.Nic) { n.TxLen, n.TxHead, n.TxTail = x, x, x })
		put(fmt.Sprint("RxLen, RxHead, RxTail ", x), func(n *api.Nic) { n.RxLen, n.RxHead, n.RxTail = x, x, x })
	}
	for _, x := range []int{-1, -7, 9, 10, 64, 256, 1 << 32, 1<<32 + 1, math.MinInt, math.MinInt + 1, math.MaxInt} {
		put(fmt.Sprint("TxHead ", x), func(n *api.Nic) { n.TxHead = x })
		put(fmt.Sprint("TxTail ", x), func(n *api.Nic) { n.TxTail = x })
		put(fmt.Sprint("RxHead ", x), func(n *api.Nic) { n.RxHead = x })
		put(fmt.Sprint("RxTail ", x), func(n *api.Nic) { n.RxTail = x })
	}
	put("TxHead at its end", func(n *api.Nic) { n.TxHead = 7 })
	put("TxTail at its end", func(n *api.Nic) { n.TxTail = 7 })
	put("RxHead at its end", func(n *api.Nic) { n.RxHead = 9 })
	put("RxTail at its end", func(n *api.Nic) { n.RxTail = 9 })
	for _, x := range []int{-1, -2, most + 1, most + 2, 1 << 32, 1<<32 + 3, math.MinInt, math.MinInt + 3, math.MaxInt} {
		put(fmt.Sprint("Drops ", x), func(n *api.Nic) { n.Drops = x })
		put(fmt.Sprint("Errors ", x), func(n *api.Nic) { n.Errors = x })
	}
	return list
}

// sizes are those that there are not, such among them as could be taken for 4.
var sizes = []int{
	0, 1, 2, 3, 5, 6, 7, 8, 12, 16, 32, 64, 256, 260, 1 << 16, 1<<16 + 4, 1 << 32, 1<<32 + 4, 1<<62 + 4, math.MaxInt - 3, math.MaxInt,
	-1, -2, -4, -8, -252, -1<<32 + 4, math.MinInt, math.MinInt + 4,
}

// beside are places that there are not: near those that there are, and far ones, such among them as are some that there are where they are cut to fewer bits.
func beside() []uint64 {
	list := []uint64{ones, ones - 1, ones - 2, ones - 3, 1<<63 - 4, 1 << 63, 1<<32 - 4, 1 << 32}
	for off := uint64(0); off < 0x1010; off++ {
		list = append(list, off)
	}
	for i := range uint64(15) {
		for bit := 6; bit < 64; bit++ {
			list = append(list, 4*i+1<<bit, 4*i+ones-1<<bit)
		}
		list = append(list, -(4 * i), ^(4 * i))
	}
	return slices.DeleteFunc(list, func(off uint64) bool {
		_, ok := placeAt(off, 4)
		return ok
	})
}

// numbers are stored: small ones, each bit alone, all but one, and such as are small in their lowest 32 bits alone.
func numbers() []uint64 {
	list := []uint64{ones, ones - 1, 1<<32 - 1, 1 << 32, ones - 1<<32 + 1, 0x5555555555555555, 0xaaaaaaaaaaaaaaaa, 0x0123456789abcdef, base, base + 0xfff}
	for x := range uint64(70) {
		list = append(list, x, 1<<32+x, ones-1<<32+1+x, x<<32, 1<<63+x, -x)
	}
	for bit := range 64 {
		list = append(list, 1<<bit, ones-1<<bit, 1<<bit+1, 1<<bit+2)
	}
	return list
}

// chance answers numbers from 0 on that no rule of the program would make, always the same ones.
func chance() func() int {
	x := uint64(0x9e3779b97f4a7c15)
	return func() int {
		x ^= x << 13
		x ^= x >> 7
		x ^= x << 17
		return int(x >> 1)
	}
}

// memory answers memory of n bytes, no two near ones alike.
func memory(n int) api.Ram {
	r := api.Ram{Data: make([]byte, n)}
	for i := range r.Data {
		r.Data[i] = byte(i*37 + i/256 + 5)
	}
	return r
}

// desc is a descriptor.
type desc struct {
	address               uint64
	length, flags, status uint16
}

// put writes bytes into a memory of the test's own, as many of them as it has.
func put(r api.Ram, at uint64, b ...byte) {
	for i, one := range b {
		if list, ok := spots(r, at+uint64(i), 1); ok {
			*list[0] = one
		}
	}
}

// putDesc writes a descriptor into a memory of the test's own, all but its last two bytes.
func putDesc(r api.Ram, at uint64, d desc) {
	var b []byte
	for i := range 8 {
		b = append(b, byte(d.address>>(8*i)))
	}
	for _, x := range []uint16{d.length, d.flags, d.status} {
		b = append(b, byte(x%256), byte(x/256))
	}
	put(r, at, b...)
}

// frameOf answers a frame of n bytes, as much of it as there is to an address.
func frameOf(n int, to []byte) []byte {
	b := make([]byte, n)
	for i := range b {
		b[i] = byte(0xf1 - 29*i - i/256)
	}
	copy(b, to)
	return b
}

// short answers bytes as a text.
func short(b []byte) string {
	if len(b) <= 40 {
		return fmt.Sprintf("%x", b)
	}
	return fmt.Sprintf("%d bytes %x to %x", len(b), b[:16], b[len(b)-8:])
}

// diff answers where two memories differ, and how.
func diff(got api.Ram, want api.Ram) string {
	if len(got.Data) != len(want.Data) {
		return fmt.Sprintf("%d bytes, not %d", len(got.Data), len(want.Data))
	}
	text := ""
	for i := range got.Data {
		if got.Data[i] != want.Data[i] && len(text) < 400 {
			text += fmt.Sprintf(" [%#x] %02x, not %02x;", i, got.Data[i], want.Data[i])
		}
	}
	return text
}

// sends fails unless Send answers what the chapter tells, and leaves what it is given.
func sends(t *testing.T, n api.Nic, r api.Ram) (api.Nic, api.Ram, []byte, bool) {
	t.Helper()
	wasN, wasR := copyOf(n), ramOf(r)
	gotN, gotR, frame, ok := Send(n, r)
	wantN, wantR, wantFrame, is := sendOf(wasN, wasR)
	if !same(gotN, wantN) || ok != is || string(frame) != string(wantFrame) {
		t.Fatalf("Send of %s = %s, %s, %v, not %s, %s, %v", tell(wasN), tell(gotN), short(frame), ok, tell(wantN), short(wantFrame), is)
	}
	if !sameRam(gotR, wantR) {
		t.Fatalf("Send of %s: memory is%s", tell(wasN), diff(gotR, wantR))
	}
	if !same(n, wasN) || !sameRam(r, wasR) {
		t.Fatalf("Send of %s: what is handed in is %s, memory%s", tell(wasN), tell(n), diff(r, wasR))
	}
	return gotN, gotR, frame, ok
}

// receives fails unless Receive answers what the chapter tells, and leaves what it is given.
func receives(t *testing.T, n api.Nic, r api.Ram, frame []byte) (api.Nic, api.Ram, bool) {
	t.Helper()
	wasN, wasR, wasFrame := copyOf(n), ramOf(r), string(frame)
	gotN, gotR, ok := Receive(n, r, frame)
	wantN, wantR, is := receiveOf(wasN, wasR, []byte(wasFrame))
	if !same(gotN, wantN) || ok != is {
		t.Fatalf("Receive of %s by %s = %s, %v, not %s, %v", short(frame), tell(wasN), tell(gotN), ok, tell(wantN), is)
	}
	if !sameRam(gotR, wantR) {
		t.Fatalf("Receive of %s by %s: memory is%s", short(frame), tell(wasN), diff(gotR, wantR))
	}
	if !same(n, wasN) || !sameRam(r, wasR) || string(frame) != wasFrame {
		t.Fatalf("Receive by %s: what is handed in is %s, %s, memory%s", tell(wasN), tell(n), short(frame), diff(r, wasR))
	}
	return gotN, gotR, ok
}
