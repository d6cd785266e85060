package ip

import (
	"bytes"
	"testing"

	"drawbridge/sum"
)

// echoes tells of an Echo that is not as the chapter has it.
func echoes(t *testing.T, b []byte) {
	t.Helper()
	got, ok := Echo(b)
	if want, is := echoOf(b); ok != is || !bytes.Equal(got, want) {
		t.Fatalf("Echo(% x) = % x, %t, not % x, %t", b, got, ok, want, is)
	}
}

// echo answers a message of n bytes that asks for an echo, right.
func echo(n int, next func() int) []byte {
	b := text(n, next)
	b[0], b[1] = 8, 0
	return summed(b, 2)
}

// P17.4: answers byte by byte, of even and of odd length.
func TestEchoExamples(t *testing.T) {
	for _, c := range []struct {
		b    []byte
		want []byte
	}{
		{[]byte{8, 0, 0xf7, 0xff, 0, 0, 0, 0}, []byte{0, 0, 0xff, 0xff, 0, 0, 0, 0}},
		{[]byte{8, 0, 0xd9, 0xb9, 0x12, 0x34, 0, 1, 0x0c, 0x11}, []byte{0, 0, 0xe1, 0xb9, 0x12, 0x34, 0, 1, 0x0c, 0x11}},
		{[]byte{8, 0, 0x84, 0xca, 0x12, 0x34, 0, 1, 0x61}, []byte{0, 0, 0x8c, 0xca, 0x12, 0x34, 0, 1, 0x61}},
		// The answer's pairs add up to all ones without a checksum.
		{[]byte{8, 0, 0xf7, 0xff, 0xff, 0xff, 0, 0}, []byte{0, 0, 0x00, 0x00, 0xff, 0xff, 0, 0}},
		// A one goes out at the top just of what is asked.
		{[]byte{8, 0, 0x00, 0xfe, 0xf7, 0, 0, 1, 0, 0}, []byte{0, 0, 0x08, 0xfe, 0xf7, 0, 0, 1, 0, 0}},
	} {
		if got, ok := Echo(c.b); !ok || !bytes.Equal(got, c.want) {
			t.Errorf("Echo(% x) = % x, %t, not % x", c.b, got, ok, c.want)
		}
		echoes(t, c.b)
	}
}

// P17.4: messages of each small number of bytes, and long ones.
func TestEchoSizes(t *testing.T) {
	next := chance()
	for n := range 200 {
		b := summed(append([]byte{8, 0, 0, 0}, text(n, next)...), 2)
		got, ok := Echo(b)
		if ok != (n+4 >= 8) || !ok && len(got) != 0 {
			t.Fatalf("Echo of %d bytes: % x, %t", n+4, got, ok)
		}
		echoes(t, b)
	}
	for _, n := range []int{1472, 1473, 65535, 65536, 200001} {
		b := echo(n, next)
		if got, ok := Echo(b); !ok || len(got) != n || got[0] != 0 || !bytes.Equal(got[4:], b[4:]) || !sum.Right(got) {
			t.Errorf("Echo of %d bytes: %d, %t", n, len(got), ok)
		}
		echoes(t, b)
	}
}

// P17.4: fewer than 8 bytes, though they are right.
func TestEchoShort(t *testing.T) {
	for _, b := range [][]byte{nil, {}, {8}, {8, 0}, {8, 0, 0xf7, 0xff}, {8, 0, 0xf7, 0xff, 0}, {8, 0, 0xf7, 0xff, 0, 0}, {8, 0, 0xf7, 0xff, 0, 0, 0}} {
		if got, ok := Echo(b); ok || len(got) != 0 {
			t.Errorf("Echo(% x) = % x, %t", b, got, ok)
		}
	}
	if !sum.Right([]byte{8, 0, 0xf7, 0xff, 0, 0, 0}) {
		t.Error("it is not right")
	}
	if _, ok := Echo([]byte{8, 0, 0xf7, 0xff, 0, 0, 0, 0}); !ok {
		t.Error("8 bytes are not answered")
	}
}

// P17.4: each first byte and each second byte, made right.
func TestEchoKinds(t *testing.T) {
	next := chance()
	for kind := range 256 {
		for code := range 256 {
			b := text(8+code%5, next)
			b[0], b[1] = byte(kind), byte(code)
			b = summed(b, 2)
			if got, ok := Echo(b); ok != (kind == 8 && code == 0) || !ok && len(got) != 0 {
				t.Fatalf("Echo(% x) = % x, %t", b, got, ok)
			}
			echoes(t, b)
		}
	}
}

// P17.4: each bit of a message another: it is not right.
func TestEchoWrong(t *testing.T) {
	next := chance()
	for _, n := range []int{8, 9, 20, 33} {
		good := echo(n, next)
		for at := range 8 * n {
			b := bytes.Clone(good)
			b[at/8] ^= 1 << (at % 8)
			if got, ok := Echo(b); ok || len(got) != 0 {
				t.Fatalf("Echo(% x) = % x, %t", b, got, ok)
			}
		}
		// A nought behind does not matter to the checksum: it is one more byte of the message.
		longer := append(bytes.Clone(good), 0)
		got, ok := Echo(longer)
		if !ok || len(got) != n+1 || got[n] != 0 {
			t.Errorf("Echo(% x) = % x, %t", longer, got, ok)
		}
		if got, ok := Echo(append(bytes.Clone(good), 1)); ok || len(got) != 0 {
			t.Errorf("with a one behind: % x", got)
		}
	}
}

// P17.4: a checksum of all ones, where all noughts would do, is Right, too, and made anew.
func TestEchoOtherChecksum(t *testing.T) {
	b := []byte{8, 0, 0, 0, 0xf7, 0xff, 0, 0}
	want := []byte{0, 0, 8, 0, 0xf7, 0xff, 0, 0}
	for _, x := range []byte{0, 255} {
		b[2], b[3] = x, x
		if got, ok := Echo(b); !ok || !bytes.Equal(got, want) {
			t.Errorf("Echo(% x) = % x, %t", b, got, ok)
		}
	}
}

// P17.4: an answer is right, has all else as the message, and is not answered again.
func TestEchoOnce(t *testing.T) {
	next := chance()
	for n := 8; n < 150; n++ {
		for range 10 {
			b := echo(n, next)
			got, ok := Echo(b)
			if !ok || !sum.Right(got) || got[0] != 0 || got[1] != 0 || !bytes.Equal(got[4:], b[4:]) {
				t.Fatalf("Echo(% x) = % x, %t", b, got, ok)
			}
			if again, ok := Echo(got); ok || len(again) != 0 {
				t.Fatalf("Echo(% x) = % x, %t", got, again, ok)
			}
			// Turned back it is the message.
			got[0] = 8
			if back := summed(got, 2); !bytes.Equal(back, b) {
				t.Fatalf("% x, not % x", back, b)
			}
		}
	}
}
