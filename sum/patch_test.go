package sum

import (
	"bytes"
	"math"
	"slices"
	"testing"
)

// P15.2: Patch, told byte by byte.
func TestPatchExamples(t *testing.T) {
	for _, c := range []struct {
		b    []byte
		at   int
		want []byte
	}{
		// At the beginning, in the middle, and at the last place with both bytes.
		{[]byte{0, 0, 0x12, 0x34, 0x56, 0x78}, 0, []byte{0x97, 0x53, 0x12, 0x34, 0x56, 0x78}},
		{[]byte{0x12, 0x34, 0, 0, 0x56, 0x78}, 2, []byte{0x12, 0x34, 0x97, 0x53, 0x56, 0x78}},
		{[]byte{0x12, 0x34, 0x56, 0x78, 0, 0}, 4, []byte{0x12, 0x34, 0x56, 0x78, 0x97, 0x53}},
		{[]byte{0x12, 0x34, 0, 0, 0x56}, 2, []byte{0x12, 0x34, 0x97, 0xcb, 0x56}},
		{[]byte{0, 0, 0x56}, 0, []byte{0xa9, 0xff, 0x56}},
		{[]byte{0, 0}, 0, []byte{0xff, 0xff}},
		{make([]byte, 5), 2, []byte{0, 0, 0xff, 0xff, 0}},
		// What stands there does not count.
		{[]byte{0xff, 0xff, 0x12, 0x34, 0x56, 0x78}, 0, []byte{0x97, 0x53, 0x12, 0x34, 0x56, 0x78}},
		{[]byte{0x12, 0x34, 0x00, 0x01, 0x56, 0x78}, 2, []byte{0x12, 0x34, 0x97, 0x53, 0x56, 0x78}},
		{[]byte{0x12, 0x34, 0x01, 0x00, 0x56, 0x78}, 2, []byte{0x12, 0x34, 0x97, 0x53, 0x56, 0x78}},
		{[]byte{0x12, 0x34, 0x97, 0x53, 0x56, 0x78}, 2, []byte{0x12, 0x34, 0x97, 0x53, 0x56, 0x78}},
		{[]byte{0xab, 0xcd}, 0, []byte{0xff, 0xff}},
		{[]byte{0xab, 0xcd, 0xff, 0xff}, 0, []byte{0x00, 0x00, 0xff, 0xff}},
		// The head of a packet.
		{
			[]byte{0x45, 0, 0, 0x73, 0, 0, 0x40, 0, 0x40, 0x11, 0, 0, 0xc0, 0xa8, 0, 1, 0xc0, 0xa8, 0, 0xc7}, 10,
			[]byte{0x45, 0, 0, 0x73, 0, 0, 0x40, 0, 0x40, 0x11, 0xb8, 0x61, 0xc0, 0xa8, 0, 1, 0xc0, 0xa8, 0, 0xc7},
		},
	} {
		if got := Patch(c.b, c.at); !bytes.Equal(got, c.want) {
			t.Errorf("Patch(% x, %d) = % x, not % x", c.b, c.at, got, c.want)
		}
	}
}

// P15.2: where no pair with both its bytes stands at an even place from 0 on, b is answered as it is.
func TestPatchRefused(t *testing.T) {
	even, odd := []byte{1, 2, 3, 4}, []byte{1, 2, 3, 4, 5}
	for _, c := range []struct {
		b  []byte
		at int
	}{
		{even, 4}, {even, 5}, {even, 6}, {odd, 4}, {odd, 5}, {odd, 6},
		{even, 1}, {even, 3}, {odd, 1}, {odd, 3},
		{even, -1}, {even, -2}, {even, -4}, {odd, -1}, {odd, -2}, {odd, -4},
		{even, 1000}, {even, math.MaxInt}, {even, math.MaxInt - 1}, {even, math.MinInt}, {odd, 1 << 32}, {odd, math.MaxInt - 1}, {odd, math.MinInt},
		{nil, 0}, {[]byte{}, 0}, {nil, -2}, {nil, 2}, {nil, math.MaxInt - 1}, {nil, math.MinInt}, {[]byte{7}, 0}, {[]byte{7}, -1}, {[]byte{7}, 1}, {[]byte{7}, 2},
	} {
		if got := Patch(c.b, c.at); !bytes.Equal(got, c.b) {
			t.Errorf("Patch(% x, %d) = % x", c.b, c.at, got)
		}
	}
}

// P15.2: at every place of every text, before, behind and far from it.
func TestPatchOfTexts(t *testing.T) {
	for _, b := range texts() {
		for _, at := range places(b) {
			if got, want := Patch(b, at), patchOf(b, at); !bytes.Equal(got, want) {
				t.Fatalf("Patch(% x, %d) = % x, not % x", b, at, got, want)
			}
		}
	}
}

// P15.2: texts so long that their places have more than one byte.
func TestPatchOfLong(t *testing.T) {
	next := chance()
	for _, n := range []int{1499, 1500, 65536, 65537, 131072, 131075} {
		b := text(n, next)
		for _, at := range []int{0, 1, 2, 254, 255, 256, 258, 1024, n/2 - 1, n / 2, n/2 + 1, n - 4, n - 3, n - 2, n - 1, n, n + 1, n + 2} {
			if got, want := Patch(b, at), patchOf(b, at); !bytes.Equal(got, want) {
				t.Fatalf("Patch of %d bytes at %d", n, at)
			}
		}
	}
}

// P15.3: what is patched is Right, at every place of texts of even and of odd length, whatever stood there.
func TestPatchedIsRight(t *testing.T) {
	patched := 0
	for _, b := range texts() {
		for at := 0; at+1 < len(b); at += 2 {
			got := Patch(b, at)
			if !Right(got) {
				t.Fatalf("Patch(% x, %d) = % x is not right", b, at, got)
			}
			got[at], got[at+1] = b[at], b[at+1]
			if !bytes.Equal(got, b) {
				t.Fatalf("Patch(% x, %d) has another byte elsewhere", b, at)
			}
			patched++
		}
	}
	if patched < 1000 {
		t.Errorf("just %d were patched", patched)
	}
}

// P15.3: what is patched stays as it is when it is patched there again.
func TestPatchedAgain(t *testing.T) {
	for _, b := range texts() {
		for at := 0; at+1 < len(b); at += 2 {
			once := Patch(b, at)
			if twice := Patch(once, at); !bytes.Equal(once, twice) {
				t.Fatalf("% x at %d, then % x", once, at, twice)
			}
		}
	}
}

// ordered answers the pairs of b in an order by chance; an odd one stays at the end.
func ordered(b []byte, next func() uint64) []byte {
	c := slices.Clone(b)
	for i := len(b)/2 - 1; i > 0; i-- {
		j := int(next() >> 11 % uint64(i+1))
		c[2*i], c[2*j] = c[2*j], c[2*i]
		c[2*i+1], c[2*j+1] = c[2*j+1], c[2*i+1]
	}
	return c
}

// P15.3: the same pairs in another order have the same Sum.
func TestOrderDoesNotMatter(t *testing.T) {
	next := chance()
	others := 0
	for _, b := range texts() {
		for range 10 {
			c := ordered(b, next)
			if Sum(b) != Sum(c) || Right(b) != Right(c) {
				t.Fatalf("% x: %#x, % x: %#x", b, Sum(b), c, Sum(c))
			}
			if !bytes.Equal(b, c) {
				others++
			}
		}
	}
	if others < 1000 {
		t.Errorf("just %d are other orders", others)
	}
	long := text(100001, next)
	if Sum(long) != Sum(ordered(long, next)) {
		t.Error("100001 bytes in another order")
	}
}

// P15.3: with both bytes of every pair swapped, those of the Sum are swapped.
func TestSwappedBytes(t *testing.T) {
	for _, b := range texts() {
		if len(b)%2 == 1 {
			continue
		}
		c := slices.Clone(b)
		for p := range slices.Chunk(c, 2) {
			slices.Reverse(p)
		}
		if x, y := Sum(b), Sum(c); x != y%256*256+y/256 {
			t.Fatalf("% x: %#x, % x: %#x", b, x, c, y)
		}
	}
}
