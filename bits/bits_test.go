package bits

import (
	"bytes"
	"math"
	"slices"
	"testing"
)

const ones = math.MaxUint64

// numbers are those at which a bit, a byte or a sign is easily lost.
var numbers = []uint64{
	0, 1, 2, 0x7f, 0x80, 0xff, 0x100, 0x7ff, 0x800, 0xfff, 0x1000, 0xabcd,
	0x7fffffff, 0x80000000, 0xffffffff, 0x100000000,
	0x0102030405060708, 0x8899aabbccddeeff, 0xaaaaaaaaaaaaaaaa, 0x5555555555555555,
	1<<63 - 1, 1 << 63, 1<<63 + 1, ones - 1, ones,
}

// wrong are places, widths and sizes far from all that may be.
var wrong = []int{math.MinInt, math.MinInt + 1, math.MinInt32, -65, -64, -8, -2, -1, 65, 128, 256, math.MaxInt32, math.MaxInt - 1, math.MaxInt}

// bit answers bit i of x, 0 or 1.
func bit(x uint64, i int) uint64 { return x >> uint(i) & 1 }

// fieldByBits is Field told bit by bit.
func fieldByBits(x uint64, high int, low int) uint64 {
	sum := uint64(0)
	for i := high; i >= low; i-- {
		sum = sum*2 + bit(x, i)
	}
	return sum
}

// sextByBits is Sext told bit by bit, n from 1 to 64.
func sextByBits(x uint64, n int) uint64 {
	sum := uint64(0)
	for i := 63; i >= 0; i-- {
		sum = sum*2 + bit(x, min(i, n-1))
	}
	return sum
}

// P1.1: Field of each place that there is.
func TestFieldAllPlaces(t *testing.T) {
	for _, x := range numbers {
		for high := 0; high < 64; high++ {
			for low := 0; low <= high; low++ {
				if got, want := Field(x, high, low), fieldByBits(x, high, low); got != want {
					t.Fatalf("Field(%#x, %d, %d) = %#x, not %#x", x, high, low, got, want)
				}
			}
		}
	}
}

// P1.1: Field as the chapter's example and the edges tell it.
func TestFieldEdges(t *testing.T) {
	for _, c := range []struct {
		x         uint64
		high, low int
		want      uint64
	}{
		{0xabcd, 11, 4, 0xbc},
		{0xabcd, 15, 0, 0xabcd},
		{ones, 63, 0, ones},
		{ones, 63, 63, 1},
		{ones, 62, 62, 1},
		{ones, 0, 0, 1},
		{ones - 1, 0, 0, 0},
		{ones, 63, 1, 1<<63 - 1},
		{1 << 63, 63, 0, 1 << 63},
		{1 << 63, 62, 0, 0},
	} {
		if got := Field(c.x, c.high, c.low); got != c.want {
			t.Errorf("Field(%#x, %d, %d) = %#x, not %#x", c.x, c.high, c.low, got, c.want)
		}
	}
}

// P1.1: Field of places that may not be.
func TestFieldWrong(t *testing.T) {
	pairs := [][2]int{{3, 4}, {0, 1}, {62, 63}, {0, 63}, {64, 0}, {64, 63}, {64, 64}, {0, -1}, {63, -1}, {-1, -1}, {-1, 0}, {-2, -1}, {-1, -2}, {65, 64}}
	for _, w := range wrong {
		pairs = append(pairs, [2]int{w, 0}, [2]int{w, w}, [2]int{63, w}, [2]int{0, w}, [2]int{w, 63}, [2]int{w, -w})
	}
	for _, p := range pairs {
		if got := Field(ones, p[0], p[1]); got != 0 {
			t.Errorf("Field(ones, %d, %d) = %#x, not 0", p[0], p[1], got)
		}
	}
}

// P1.1: Sext of each width that there is.
func TestSextAllWidths(t *testing.T) {
	for _, x := range numbers {
		for n := 1; n <= 64; n++ {
			if got, want := Sext(x, n), sextByBits(x, n); got != want {
				t.Fatalf("Sext(%#x, %d) = %#x, not %#x", x, n, got, want)
			}
		}
	}
}

// P1.1: Sext as the chapter's example and the edges tell it.
func TestSextEdges(t *testing.T) {
	for _, c := range []struct {
		x    uint64
		n    int
		want uint64
	}{
		{0xfff, 12, ones},
		{0x7ff, 12, 0x7ff},
		{0x800, 12, 0xfffffffffffff800},
		{0xf7ff, 12, 0x7ff},
		{1, 1, ones},
		{2, 1, 0},
		{0x80, 8, 1<<64 - 128},
		{1 << 62, 63, 3 << 62},
		{1 << 63, 63, 0},
		{1 << 63, 64, 1 << 63},
		{0x0102030405060708, 64, 0x0102030405060708},
		{0x0102030405060708, 65, 0x0102030405060708},
		{ones, 0, 0},
		{ones, -1, 0},
	} {
		if got := Sext(c.x, c.n); got != c.want {
			t.Errorf("Sext(%#x, %d) = %#x, not %#x", c.x, c.n, got, c.want)
		}
	}
}

// P1.1: Sext of widths below 1 and above 64.
func TestSextWrong(t *testing.T) {
	for _, x := range numbers {
		for _, n := range wrong {
			want := uint64(0)
			if n > 0 {
				want = x
			}
			if got := Sext(x, n); got != want {
				t.Errorf("Sext(%#x, %d) = %#x, not %#x", x, n, got, want)
			}
		}
	}
}

// P1.1: Align of the sizes that there are, told by the lowest bits.
func TestAlign(t *testing.T) {
	low := map[int]uint64{1: 0, 2: 1, 4: 3, 8: 7}
	xs := slices.Clone(numbers)
	for x := range uint64(33) {
		xs = append(xs, x, ones-x, 1<<63+x, 1<<32-16+x)
	}
	for size, bits := range low {
		for _, x := range xs {
			if got, want := Align(x, size), x&bits == 0; got != want {
				t.Errorf("Align(%#x, %d) = %v", x, size, got)
			}
		}
	}
}

// P1.1: Align of all other sizes, those among them of which 0 is a multiple.
func TestAlignWrong(t *testing.T) {
	sizes := append([]int{0, 3, 5, 6, 7, 9, 10, 12, 16, 24, 32, 64, -4, 1 << 32, 1<<32 + 1, math.MinInt}, wrong...)
	for _, size := range sizes {
		for _, x := range []uint64{0, 1, 8, 16, 48, 1 << 32, 1 << 63, ones} {
			if Align(x, size) {
				t.Errorf("Align(%#x, %d)", x, size)
			}
		}
	}
}

// P1.2: Put of each size that there is.
func TestPut(t *testing.T) {
	small := []byte{8, 7, 6, 5, 4, 3, 2, 1}
	large := []byte{1, 2, 3, 4, 5, 6, 7, 8}
	for size := 0; size <= 8; size++ {
		if got := Put(0x0102030405060708, size, false); !bytes.Equal(got, small[:size]) {
			t.Errorf("Put of size %d = %v", size, got)
		}
		if got := Put(0x0102030405060708, size, true); !bytes.Equal(got, large[8-size:]) {
			t.Errorf("Put of size %d, big = %v", size, got)
		}
	}
	for size := 1; size <= 8; size++ {
		if got := Put(ones, size, false); !bytes.Equal(got, bytes.Repeat([]byte{0xff}, size)) {
			t.Errorf("Put of ones, size %d = %v", size, got)
		}
		if got := Put(0, size, true); !bytes.Equal(got, make([]byte, size)) {
			t.Errorf("Put of 0, size %d = %v", size, got)
		}
	}
}

// P1.2: Put of sizes below 0 and above 8.
func TestPutWrong(t *testing.T) {
	for _, size := range append([]int{9, 10, 16}, wrong...) {
		small, large := Put(0x0102030405060708, size, false), Put(0x0102030405060708, size, true)
		if size < 0 {
			if len(small) != 0 || len(large) != 0 {
				t.Errorf("Put of size %d = %v, %v", size, small, large)
			}
			continue
		}
		if !bytes.Equal(small, []byte{8, 7, 6, 5, 4, 3, 2, 1}) || !bytes.Equal(large, []byte{1, 2, 3, 4, 5, 6, 7, 8}) {
			t.Errorf("Put of size %d = %v, %v", size, small, large)
		}
	}
}

// P1.2: Get of few bytes, of eight, and of more, of which just the first eight count.
func TestGet(t *testing.T) {
	for _, c := range []struct {
		b            []byte
		small, large uint64
	}{
		{nil, 0, 0},
		{[]byte{}, 0, 0},
		{[]byte{0xfe}, 0xfe, 0xfe},
		{[]byte{1, 2}, 0x0201, 0x0102},
		{[]byte{0, 0xff}, 0xff00, 0x00ff},
		{[]byte{0x81, 0x82, 0x83}, 0x838281, 0x818283},
		{[]byte{1, 2, 3, 4, 5}, 0x0504030201, 0x0102030405},
		{[]byte{1, 2, 3, 4, 5, 6, 7}, 0x07060504030201, 0x01020304050607},
		{[]byte{1, 2, 3, 4, 5, 6, 7, 8}, 0x0807060504030201, 0x0102030405060708},
		{[]byte{1, 2, 3, 4, 5, 6, 7, 8, 9}, 0x0807060504030201, 0x0102030405060708},
		{append([]byte{0xf1, 2, 3, 4, 5, 6, 7, 0xf8}, bytes.Repeat([]byte{0xee}, 100)...), 0xf8070605040302f1, 0xf1020304050607f8},
		{bytes.Repeat([]byte{0xff}, 9), ones, ones},
	} {
		if got := Get(c.b, false); got != c.small {
			t.Errorf("Get(%v) = %#x, not %#x", c.b, got, c.small)
		}
		if got := Get(c.b, true); got != c.large {
			t.Errorf("Get(%v), big = %#x, not %#x", c.b, got, c.large)
		}
	}
}

// P1.2 and R7: what room a list has behind its end is nobody's.
func TestGetLooksAtLengthAlone(t *testing.T) {
	b := []byte{1, 2, 3, 4}
	if got := Get(b[:2], false); got != 0x0201 {
		t.Errorf("Get = %#x", got)
	}
	if got := Get(b[:2], true); got != 0x0102 {
		t.Errorf("Get, big = %#x", got)
	}
}

// R3: what is handed in is not changed, and what is answered is shared with nobody.
func TestPutGetShareNothing(t *testing.T) {
	first := Put(0x0102, 2, false)
	first[0] = 99
	if got := Put(0x0102, 2, false); !bytes.Equal(got, []byte{2, 1}) {
		t.Errorf("Put after a change of its answer = %v", got)
	}
	b := []byte{1, 2, 3, 4, 5, 6, 7, 8, 9}
	for _, big := range []bool{false, true} {
		Get(b, big)
		if !bytes.Equal(b, []byte{1, 2, 3, 4, 5, 6, 7, 8, 9}) {
			t.Errorf("Get changed its argument to %v", b)
		}
	}
}

// P1.3: Get of Put is x's lowest bytes.
func TestGetOfPut(t *testing.T) {
	for _, x := range numbers {
		for size := -1; size <= 9; size++ {
			want := uint64(0)
			if size > 0 {
				want = fieldByBits(x, 8*min(size, 8)-1, 0)
			}
			for _, big := range []bool{false, true} {
				if got := Get(Put(x, size, big), big); got != want {
					t.Errorf("Get of Put(%#x, %d, %v) = %#x, not %#x", x, size, big, got, want)
				}
			}
		}
	}
}

// P1.3: Sext keeps the lowest bits.
func TestSextKeepsLowestBits(t *testing.T) {
	for _, x := range numbers {
		for n := 1; n <= 70; n++ {
			high := min(n, 64) - 1
			if got, want := Field(Sext(x, n), high, 0), fieldByBits(x, high, 0); got != want {
				t.Errorf("Sext(%#x, %d) keeps %#x, not %#x", x, n, got, want)
			}
		}
	}
}
