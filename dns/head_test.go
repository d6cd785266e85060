package dns

import (
	"bytes"
	"math"
	"testing"
)

// ids tells of an Id that is not as the chapter has it.
func ids(t *testing.T, b []byte) {
	t.Helper()
	got, ok := Id(b)
	if want, is := idOf(b); ok != is || got != want {
		t.Fatalf("Id(% x) = %d, %v, not %d, %v", b, got, ok, want, is)
	}
}

// withs tells of a With that is not as the chapter has it.
func withs(t *testing.T, b []byte, id int) {
	t.Helper()
	got := With(b, id)
	if want := withOf(b, id); !bytes.Equal(got, want) {
		t.Fatalf("With(% x, %d) = % x, not % x", b, id, got, want)
	}
}

// queries tells of a Query that is not as the chapter has it.
func queries(t *testing.T, b []byte) {
	t.Helper()
	if got, want := Query(b), queryOf(b); got != want {
		t.Fatalf("Query(% x) = %v, not %v", b, got, want)
	}
}

// P21.1: Id of 0 to 11 bytes, and of 12 and more.
func TestIdSizes(t *testing.T) {
	for n := range 300 {
		b := run(0x31, n)
		got, ok := Id(b)
		want, is := 0x3132, true
		if n < 12 {
			want, is = 0, false
		}
		if got != want || ok != is {
			t.Errorf("Id of %d bytes = %#x, %v", n, got, ok)
		}
		ids(t, b)
		ids(t, make([]byte, n))
	}
	if got, ok := Id(nil); got != 0 || ok {
		t.Errorf("Id(nil) = %d, %v", got, ok)
	}
}

// P21.1: Id is the first number, the higher byte first, through all values; nothing else counts.
func TestIdValues(t *testing.T) {
	next := chance()
	for id := range 65536 {
		b := text(12+next()%20, next)
		b[0], b[1] = byte(id>>8), byte(id)
		if got, ok := Id(b); got != id || !ok {
			t.Fatalf("Id(% x) = %d, %v, not %d", b, got, ok, id)
		}
	}
}

// P21.1: With of fewer than 12 bytes is as they are, and of 12 and more all but the first two is.
func TestWithSizes(t *testing.T) {
	for n := range 300 {
		b := run(0x31, n)
		want := run(0x31, n)
		if n >= 12 {
			want[0], want[1] = 0xe7, 0xe8
		}
		if got := With(b, 0xe7e8); !bytes.Equal(got, want) {
			t.Errorf("With of %d bytes = % x", n, got)
		}
	}
	if got := With(nil, 7); len(got) != 0 {
		t.Errorf("With(nil) = % x", got)
	}
}

// P21.1: With of each id, and of such as are past the ends: modulo 65536.
func TestWithIds(t *testing.T) {
	b := asking(run(1, 30))
	for id := range 65536 {
		got := With(b, id)
		if len(got) != len(b) || got[0] != byte(id>>8) || got[1] != byte(id) || !bytes.Equal(got[2:], b[2:]) {
			t.Fatalf("With %d = % x", id, got)
		}
	}
	for _, c := range []struct{ id, want int }{
		{-1, 0xffff}, {-2, 0xfffe}, {-256, 0xff00}, {-257, 0xfeff}, {-65535, 1}, {-65536, 0}, {-65537, 0xffff},
		{0, 0}, {65535, 0xffff}, {65536, 0}, {65537, 1}, {131071, 0xffff}, {1 << 32, 0}, {1<<32 + 0x0203, 0x0203},
		{math.MaxInt, 0xffff}, {math.MaxInt - 0xff, 0xff00}, {math.MinInt, 0}, {math.MinInt + 0x0102, 0x0102},
	} {
		for _, b := range [][]byte{head(), b, make([]byte, 12), bytes.Repeat([]byte{255}, 40)} {
			got := With(b, c.id)
			if len(got) != len(b) || !bytes.Equal(got[:2], digits(c.want)) || !bytes.Equal(got[2:], b[2:]) {
				t.Errorf("With(% x, %d) = % x", b, c.id, got)
			}
			withs(t, b, c.id)
		}
	}
	for _, id := range wrong() {
		withs(t, b, id)
		withs(t, b[:11], id)
	}
}

// P21.1: Id of With is the id.
func TestIdOfWith(t *testing.T) {
	next := chance()
	for range 5000 {
		b, id := text(12+next()%40, next), next()%65536
		if got, ok := Id(With(b, id)); got != id || !ok {
			t.Fatalf("Id of With(% x, %d) = %d, %v", b, id, got, ok)
		}
	}
}

// P21.1: Query with each value of the third byte, of few bytes and many: its highest bit alone counts.
func TestQuery(t *testing.T) {
	for n := range 60 {
		for x := range 256 {
			b := make([]byte, n)
			if n > 2 {
				b[2] = byte(x)
			}
			want := n >= 12 && x < 128
			if got := Query(b); got != want {
				t.Errorf("Query of %d bytes, the third one %d = %v", n, x, got)
			}
			queries(t, b)
		}
	}
	if Query(nil) {
		t.Error("Query(nil)")
	}
}

// P21.1: each bit of the first 12 bytes alone, and each alone missing.
func TestQueryBits(t *testing.T) {
	for at := range 12 {
		for bit := range 8 {
			b := make([]byte, 12)
			b[at] = 1 << bit
			if got, want := Query(b), at != 2 || bit != 7; got != want {
				t.Errorf("Query with bit %d of byte %d = %v", bit, at, got)
			}
			b = bytes.Repeat([]byte{255}, 12)
			b[at] ^= 1 << bit
			if got, want := Query(b), at == 2 && bit == 7; got != want {
				t.Errorf("Query without bit %d of byte %d = %v", bit, at, got)
			}
		}
	}
}
