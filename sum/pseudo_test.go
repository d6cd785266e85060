package sum

import (
	"bytes"
	"math"
	"testing"
)

// P15.1: Pseudo, told byte by byte: each of the four numbers alone, the greatest ones, those past what a byte and two hold, and those below 0.
func TestPseudoExamples(t *testing.T) {
	for _, c := range []struct {
		src, dst uint32
		proto, n int
		want     []byte
	}{
		{0, 0, 0, 0, []byte{0, 0, 0, 0, 0, 0, 0, 0, 0, 0, 0, 0}},
		{0x01020304, 0, 0, 0, []byte{1, 2, 3, 4, 0, 0, 0, 0, 0, 0, 0, 0}},
		{0, 0x01020304, 0, 0, []byte{0, 0, 0, 0, 1, 2, 3, 4, 0, 0, 0, 0}},
		{0, 0, 17, 0, []byte{0, 0, 0, 0, 0, 0, 0, 0, 0, 17, 0, 0}},
		{0, 0, 0, 0x0102, []byte{0, 0, 0, 0, 0, 0, 0, 0, 0, 0, 1, 2}},
		{0x0a00020f, 0x0a000203, 17, 300, []byte{10, 0, 2, 15, 10, 0, 2, 3, 0, 17, 1, 44}},
		{math.MaxUint32, 0, 0, 0, []byte{255, 255, 255, 255, 0, 0, 0, 0, 0, 0, 0, 0}},
		{0, math.MaxUint32, 0, 0, []byte{0, 0, 0, 0, 255, 255, 255, 255, 0, 0, 0, 0}},
		{math.MaxUint32, math.MaxUint32, 255, 65535, []byte{255, 255, 255, 255, 255, 255, 255, 255, 0, 255, 255, 255}},
		{0, 0, 255, 0, []byte{0, 0, 0, 0, 0, 0, 0, 0, 0, 255, 0, 0}},
		{0, 0, 256, 0, []byte{0, 0, 0, 0, 0, 0, 0, 0, 0, 0, 0, 0}},
		{0, 0, 257, 0, []byte{0, 0, 0, 0, 0, 0, 0, 0, 0, 1, 0, 0}},
		{0, 0, 65535, 0, []byte{0, 0, 0, 0, 0, 0, 0, 0, 0, 255, 0, 0}},
		{0, 0, -1, 0, []byte{0, 0, 0, 0, 0, 0, 0, 0, 0, 255, 0, 0}},
		{0, 0, -255, 0, []byte{0, 0, 0, 0, 0, 0, 0, 0, 0, 1, 0, 0}},
		{0, 0, -256, 0, []byte{0, 0, 0, 0, 0, 0, 0, 0, 0, 0, 0, 0}},
		{0, 0, math.MaxInt, 0, []byte{0, 0, 0, 0, 0, 0, 0, 0, 0, 255, 0, 0}},
		{0, 0, math.MinInt, 0, []byte{0, 0, 0, 0, 0, 0, 0, 0, 0, 0, 0, 0}},
		{0, 0, 0, 255, []byte{0, 0, 0, 0, 0, 0, 0, 0, 0, 0, 0, 255}},
		{0, 0, 0, 256, []byte{0, 0, 0, 0, 0, 0, 0, 0, 0, 0, 1, 0}},
		{0, 0, 0, 65535, []byte{0, 0, 0, 0, 0, 0, 0, 0, 0, 0, 255, 255}},
		{0, 0, 0, 65536, []byte{0, 0, 0, 0, 0, 0, 0, 0, 0, 0, 0, 0}},
		{0, 0, 0, 65537, []byte{0, 0, 0, 0, 0, 0, 0, 0, 0, 0, 0, 1}},
		{0, 0, 0, -1, []byte{0, 0, 0, 0, 0, 0, 0, 0, 0, 0, 255, 255}},
		{0, 0, 0, -65535, []byte{0, 0, 0, 0, 0, 0, 0, 0, 0, 0, 0, 1}},
		{0, 0, 0, -65536, []byte{0, 0, 0, 0, 0, 0, 0, 0, 0, 0, 0, 0}},
		{0, 0, 0, math.MaxInt, []byte{0, 0, 0, 0, 0, 0, 0, 0, 0, 0, 255, 255}},
		{0, 0, 0, math.MinInt, []byte{0, 0, 0, 0, 0, 0, 0, 0, 0, 0, 0, 0}},
	} {
		if got := Pseudo(c.src, c.dst, c.proto, c.n); !bytes.Equal(got, c.want) {
			t.Errorf("Pseudo(%#x, %#x, %d, %d) = % x, not % x", c.src, c.dst, c.proto, c.n, got, c.want)
		}
	}
}

// P15.1: Pseudo of numbers about the edges of each of its parts, and by chance.
func TestPseudoOfNumbers(t *testing.T) {
	check := func(src uint32, dst uint32, proto int, n int) {
		if got, want := Pseudo(src, dst, proto, n), pseudoOf(src, dst, proto, n); !bytes.Equal(got, want) {
			t.Fatalf("Pseudo(%#x, %#x, %d, %d) = % x, not % x", src, dst, proto, n, got, want)
		}
	}
	for bit := range 32 {
		check(1<<bit, 0, 0, 0)
		check(0, 1<<bit, 0, 0)
		check(^uint32(1<<bit), math.MaxUint32, 255, 65535)
		check(math.MaxUint32, ^uint32(1<<bit), 255, 65535)
	}
	for x := -140000; x < 140000; x += 7 {
		check(1, 2, x, 3)
		check(1, 2, 3, x)
	}
	next := chance()
	for range 20000 {
		check(uint32(next()>>20), uint32(next()>>20), int(next()), int(next()))
	}
}

// P15.1: behind Pseudo a datagram's checksum is what its bytes add up to: a whole one, and one in whose bytes a bit is turned.
func TestPseudoOfDatagram(t *testing.T) {
	// 10.0.2.15 port 1024 to 10.0.2.3 port 53: "hi".
	datagram := []byte{0x04, 0x00, 0x00, 0x35, 0x00, 0x0a, 0, 0, 'h', 'i'}
	head := Pseudo(0x0a00020f, 0x0a000203, 17, len(datagram))
	whole := Patch(append(head, datagram...), 12+6)
	// 0a00 + 020f + 0a00 + 0203 + 0011 + 000a + 0400 + 0035 + 000a + 6869 is 84d5.
	if whole[18] != 0x7b || whole[19] != 0x2a || !Right(whole) {
		t.Errorf("% x", whole)
	}
	whole[21] ^= 4
	if Right(whole) {
		t.Errorf("% x is right", whole)
	}
}
