package sum

import (
	"bytes"
	"math/big"
	"testing"
)

// P15.1: Sum, told number by number, the chapter's example among them.
func TestSumExamples(t *testing.T) {
	for _, c := range []struct {
		b    []byte
		want int
	}{
		{[]byte{0x00, 0x01, 0xf2, 0x03, 0xf4, 0xf5, 0xf6, 0xf7}, 0x220d},
		{nil, 0xffff},
		{[]byte{}, 0xffff},
		{[]byte{0}, 0xffff},
		{[]byte{0x12}, 0xedff},
		{[]byte{0xff}, 0x00ff},
		{[]byte{0, 0}, 0xffff},
		{[]byte{0, 1}, 0xfffe},
		{[]byte{1, 0}, 0xfeff},
		{[]byte{0x12, 0x34}, 0xedcb},
		{[]byte{0xff, 0xff}, 0},
		{[]byte{0xff, 0xfe}, 1},
		{[]byte{0x12, 0x34, 0x56}, 0x97cb},
		{[]byte{0x12, 0x34, 0x56, 0}, 0x97cb},
		{[]byte{0x12, 0x34, 0, 0x56}, 0xed75},
		{[]byte{0, 0, 0}, 0xffff},
		{[]byte{0xff, 0xff, 0xff}, 0x00ff},
		// Nothing goes out yet.
		{[]byte{0x80, 0x00, 0x7f, 0xff}, 0},
		// Ones go out once.
		{[]byte{0x80, 0x00, 0x80, 0x00}, 0xfffe},
		{[]byte{0x80, 0x00, 0x80, 0x01}, 0xfffd},
		{[]byte{0xff, 0xff, 0x00, 0x01}, 0xfffe},
		{[]byte{0xff, 0xff, 0xff, 0xff}, 0},
		{[]byte{0xff, 0xfe, 0xff, 0xff}, 1},
		// They go out again when they have been added at the bottom.
		{[]byte{0xff, 0xff, 0xff, 0xff, 0x00, 0x01}, 0xfffe},
		{[]byte{0xff, 0xff, 0xff, 0xff, 0x00, 0x02}, 0xfffd},
		{[]byte{0xff, 0xff, 0xff, 0xff, 0xff, 0xff, 0x00, 0x02}, 0xfffd},
		{[]byte{0xff, 0xff, 0xff, 0xff, 0x01}, 0xfeff},
	} {
		if got := Sum(c.b); got != c.want {
			t.Errorf("Sum(% x) = %#x, not %#x", c.b, got, c.want)
		}
	}
}

// P15.1: Sum of each text of one byte and of two.
func TestSumOfTwo(t *testing.T) {
	for x := range 65536 {
		if got := Sum([]byte{byte(x / 256), byte(x % 256)}); got != 65535-x {
			t.Fatalf("Sum of %#x = %#x", x, got)
		}
	}
	for x := range 256 {
		if got := Sum([]byte{byte(x)}); got != 65535-256*x {
			t.Fatalf("Sum of the byte %#x = %#x", x, got)
		}
	}
}

// P15.1: Sum of two and of three pairs whose numbers lie about where ones go out.
func TestSumOfPairs(t *testing.T) {
	edges := []int{0, 1, 2, 0xff, 0x100, 0x101, 0x7ffe, 0x7fff, 0x8000, 0x8001, 0xfeff, 0xff00, 0xfffd, 0xfffe, 0xffff}
	for _, x := range edges {
		for _, y := range edges {
			for _, z := range edges {
				b := []byte{byte(x / 256), byte(x % 256), byte(y / 256), byte(y % 256), byte(z / 256), byte(z % 256)}
				for n := range len(b) + 1 {
					if got, want := Sum(b[:n]), sumOf(b[:n]); got != want {
						t.Fatalf("Sum(% x) = %#x, not %#x", b[:n], got, want)
					}
				}
			}
		}
	}
}

// P15.1: Sum of texts of every small length, and of long ones, each also with one byte less.
func TestSumOfTexts(t *testing.T) {
	list := texts()
	next := chance()
	for _, n := range []int{100, 255, 256, 1499, 1500, 4095, 65535, 65536, 131073, 400001} {
		list = append(list, text(n, next))
	}
	for _, b := range list {
		if got, want := Sum(b), sumOf(b); got != want {
			t.Fatalf("Sum of %d bytes: %#x, not %#x", len(b), got, want)
		}
	}
}

// P15.1: Sum is what a number of all the bytes leaves, divided by 65535: the same, told without pairs.
func TestSumByRest(t *testing.T) {
	next := chance()
	for n := 1; n < 300; n++ {
		b := text(n, next)
		b[0] |= 1
		whole := new(big.Int).SetBytes(b)
		if n%2 == 1 {
			whole.Lsh(whole, 8)
		}
		rest := int(new(big.Int).Mod(whole, big.NewInt(65535)).Int64())
		if got := Sum(b); (got+rest)%65535 != 0 || got == 65535 {
			t.Fatalf("Sum(% x) = %#x, the rest is %#x", b, got, rest)
		}
	}
}

// P15.1: Sum of so many bytes of 0 and of 255 that totals go past 32 bits.
func TestSumOfMany(t *testing.T) {
	for _, n := range []int{1, 2, 3, 255, 256, 257, 32767, 32768, 65535, 65536, 65537, 65538, 65539, 131071, 131072, 200000} {
		if got := Sum(make([]byte, 2*n)); got != 0xffff {
			t.Errorf("Sum of %d pairs of 0: %#x", n, got)
		}
		b := bytes.Repeat([]byte{255}, 2*n)
		if got := Sum(b); got != 0 {
			t.Errorf("Sum of %d pairs of 255: %#x", n, got)
		}
		if got := Sum(b[1:]); got != 0x00ff {
			t.Errorf("Sum of %d bytes of 255: %#x", 2*n-1, got)
		}
		if got := Sum(append(b, 0, 1)); got != 0xfffe {
			t.Errorf("Sum of %d pairs of 255 and 1: %#x", n, got)
		}
		if got := Sum(append(b, 0x12, 0x34)); got != 0xedcb {
			t.Errorf("Sum of %d pairs of 255 and 1234: %#x", n, got)
		}
	}
}

// P15.1: Right, told text by text.
func TestRightExamples(t *testing.T) {
	for _, c := range []struct {
		b    []byte
		want bool
	}{
		{nil, false},
		{[]byte{}, false},
		{[]byte{0}, false},
		{[]byte{0xff}, false},
		{[]byte{0, 0}, false},
		{make([]byte, 100), false},
		{[]byte{0xff, 0xff}, true},
		{[]byte{0xff, 0xff, 0}, true},
		{[]byte{0xff, 0xff, 1}, false},
		{[]byte{0x00, 0xff, 0xff}, true},
		{[]byte{0xff, 0x00, 0xff}, false},
		{[]byte{0x12, 0x34, 0xed, 0xcb}, true},
		{[]byte{0x12, 0x34, 0xcb, 0xed}, false},
		{[]byte{0x00, 0x01, 0xf2, 0x03, 0xf4, 0xf5, 0xf6, 0xf7, 0x22, 0x0d}, true},
		{[]byte{0x00, 0x01, 0xf2, 0x03, 0xf4, 0xf5, 0xf6, 0xf7}, false},
	} {
		if got := Right(c.b); got != c.want {
			t.Errorf("Right(% x) = %v", c.b, got)
		}
	}
}

// P15.1: Right of every text, also of those that have their checksum, is whether its Sum is 0.
func TestRightOfTexts(t *testing.T) {
	list := texts()
	for _, b := range texts() {
		list = append(list, patchOf(b, 0))
	}
	right := 0
	for _, b := range list {
		want := sumOf(b) == 0
		if got := Right(b); got != want {
			t.Fatalf("Right(% x) = %v", b, got)
		}
		if want {
			right++
		}
	}
	if right < 1000 {
		t.Errorf("just %d are right", right)
	}
}

// P15.1: what is right is not right any more when any one bit is turned.
func TestRightOfOneBitTurned(t *testing.T) {
	for _, b := range texts() {
		b = patchOf(b, 0)
		if len(b) < 2 {
			continue
		}
		if !Right(b) {
			t.Fatalf("% x is not right", b)
		}
		for i := range 8 * len(b) {
			b[i/8] ^= 1 << (i % 8)
			if Right(b) {
				t.Fatalf("% x is right with bit %d turned", b, i)
			}
			b[i/8] ^= 1 << (i % 8)
		}
	}
}

// P15.1: Right of so many bytes that totals go past 32 bits.
func TestRightOfMany(t *testing.T) {
	b := bytes.Repeat([]byte{255}, 2*65538)
	if !Right(b) {
		t.Error("65538 pairs of 255 are not right")
	}
	b[77] = 254
	if Right(b) {
		t.Error("65538 pairs of 255, one less, are right")
	}
}
