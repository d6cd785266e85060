package udp

import (
	"bytes"
	"math"
	"slices"
	"testing"

	"drawbridge/api"
	"drawbridge/sum"
)

// puts tells of a Put that is not as the chapter has it.
func puts(t *testing.T, s sent) {
	t.Helper()
	got, e := Put(s.u, s.src, s.dst)
	if want, number := putOf(s.u, s.src, s.dst); e != number || !bytes.Equal(got, want) {
		t.Fatalf("Put(%d, %d, %d bytes; %#x, %#x) = % x, %d, not % x, %d", s.u.Src, s.u.Dst, len(s.u.Data), s.src, s.dst, got, e, want, number)
	}
}

// answersPut tells of a Put that does not answer a number; ErrArg comes without bytes.
func answersPut(t *testing.T, u api.Udp, want api.Errno) {
	t.Helper()
	got, e := Put(u, guest, names)
	if e != want || e != api.OK && len(got) != 0 {
		t.Errorf("Put(%d, %d, %d bytes) = %d bytes, %d, not %d", u.Src, u.Dst, len(u.Data), len(got), e, want)
	}
	puts(t, sent{u, guest, names})
}

// example is a datagram, and its bytes, told one by one.
type example struct {
	sent
	want []byte
}

// examples are datagrams with their bytes: of even and odd lengths.
func examples() []example {
	return []example{
		// 0011 + 0008 + 0008 is 21.
		{sent{api.Udp{}, 0, 0}, []byte{0, 0, 0, 0, 0, 8, 0xff, 0xde}},
		// 0a00 + 0203 + 0a00 + 020f + 0011 + 0008 + 0035 + 0400 + 0008 is 1c68.
		{sent{api.Udp{Src: 53, Dst: 1024}, names, guest}, []byte{0, 0x35, 4, 0, 0, 8, 0xe3, 0x97}},
		// 0a00 + 020f + 0a00 + 0203 + 0011 + 000a + 0400 + 0035 + 000a + 6869 is 84d5.
		{sent{api.Udp{Src: 1024, Dst: 53, Data: []byte("hi")}, guest, names}, []byte{4, 0, 0, 0x35, 0, 0x0a, 0x7b, 0x2a, 'h', 'i'}},
		// 0a00 + 020f + 0a00 + 0203 + 0011 + 0009 + 0400 + 0035 + 0009 + 6800 is 846a.
		{sent{api.Udp{Src: 1024, Dst: 53, Data: []byte("h")}, guest, names}, []byte{4, 0, 0, 0x35, 0, 9, 0x7b, 0x95, 'h'}},
		// 0a00 + 020f + 0a00 + 0203 + 0011 + 000b + 0400 + 0035 + 000b + 6869 + 2100 is a5d7.
		{sent{api.Udp{Src: 1024, Dst: 53, Data: []byte("hi!")}, guest, names}, []byte{4, 0, 0, 0x35, 0, 0x0b, 0x5a, 0x28, 'h', 'i', '!'}},
		// 0102 + 0304 + 0506 + 0708 + 0011 + 000c + 1122 + 3344 + 000c + aabb + ccdd is 1cc3b, and so cc3c.
		{sent{api.Udp{Src: 0x1122, Dst: 0x3344, Data: []byte{0xaa, 0xbb, 0xcc, 0xdd}}, 0x01020304, 0x05060708}, []byte{0x11, 0x22, 0x33, 0x44, 0, 0x0c, 0x33, 0xc3, 0xaa, 0xbb, 0xcc, 0xdd}},
		// ffff six times, 0011 + 0009 + 0009 and ff00: ff23.
		{sent{api.Udp{Src: 65535, Dst: 65535, Data: []byte{0xff}}, math.MaxUint32, math.MaxUint32}, []byte{255, 255, 255, 255, 0, 9, 0, 0xdc, 0xff}},
		// 0011 + 000a + 000a + ffda is ffff: it comes out 0.
		{sent{api.Udp{Data: []byte{0xff, 0xda}}, 0, 0}, []byte{0, 0, 0, 0, 0, 10, 255, 255, 0xff, 0xda}},
	}
}

// P18.1, P18.2: whole datagrams, told byte by byte.
func TestExamples(t *testing.T) {
	for _, c := range examples() {
		if got, e := Put(c.u, c.src, c.dst); e != api.OK || !bytes.Equal(got, c.want) {
			t.Errorf("Put(%+v, %#x, %#x) = % x, %d, not % x", c.u, c.src, c.dst, got, e, c.want)
		}
		if got, e := Get(c.want, c.src, c.dst); e != api.OK || !same(got, c.u) {
			t.Errorf("Get(% x, %#x, %#x) = %+v, %d, not %+v", c.want, c.src, c.dst, got, e, c.u)
		}
	}
}

// The chapter's example: ports 53 and 1024, no Data: 8 bytes.
func TestChapterExample(t *testing.T) {
	for _, c := range []sent{{src: names, dst: guest}, {}, {src: 1}, {dst: math.MaxUint32}} {
		b, e := Put(api.Udp{Src: 53, Dst: 1024}, c.src, c.dst)
		if e != api.OK || len(b) != 8 || !bytes.Equal(b[:6], []byte{0, 53, 4, 0, 0, 8}) {
			t.Errorf("Put = % x, %d", b, e)
		}
		if u, e := Get(b, c.src, c.dst); e != api.OK || !same(u, api.Udp{Src: 53, Dst: 1024}) {
			t.Errorf("Get(% x) = %+v, %d", b, u, e)
		}
	}
}

// P18.1: each port about 0 and 65535, alone and with the other one.
func TestPutPorts(t *testing.T) {
	edges := []struct {
		x    int
		want api.Errno
	}{{-1, api.ErrArg}, {0, api.OK}, {1, api.OK}, {65534, api.OK}, {65535, api.OK}, {65536, api.ErrArg}}
	for _, n := range []int{0, 1, 2} {
		for _, c := range edges {
			answersPut(t, api.Udp{Src: c.x, Dst: 7, Data: run(0, n)}, c.want)
			answersPut(t, api.Udp{Src: 7, Dst: c.x, Data: run(0, n)}, c.want)
			answersPut(t, api.Udp{Src: c.x, Dst: c.x, Data: run(0, n)}, c.want)
			for _, d := range edges {
				answersPut(t, api.Udp{Src: c.x, Dst: d.x, Data: run(0, n)}, max(c.want, d.want))
			}
		}
	}
	for _, x := range wrongPorts() {
		answersPut(t, api.Udp{Src: x, Dst: 7}, api.ErrArg)
		answersPut(t, api.Udp{Src: 7, Dst: x}, api.ErrArg)
		for _, y := range wrongPorts() {
			answersPut(t, api.Udp{Src: x, Dst: y}, api.ErrArg)
		}
	}
}

// P18.1: each port stands in its two bytes, and in no others but the checksum's.
func TestPutEachPort(t *testing.T) {
	for x := -300; x < 65536+300; x++ {
		puts(t, sent{api.Udp{Src: x, Dst: 53}, guest, names})
		puts(t, sent{api.Udp{Src: 53, Dst: x, Data: []byte{9}}, guest, names})
	}
	for _, c := range []struct {
		u  api.Udp
		at int
		x  byte
	}{
		{api.Udp{Src: 0x9100}, 0, 0x91},
		{api.Udp{Src: 0x91}, 1, 0x91},
		{api.Udp{Dst: 0x9100}, 2, 0x91},
		{api.Udp{Dst: 0x91}, 3, 0x91},
		{api.Udp{Data: make([]byte, 0x9100-8)}, 4, 0x91},
		{api.Udp{Data: make([]byte, 0x91-8)}, 5, 0x91},
		{api.Udp{Data: append([]byte{0x91}, make([]byte, 0x100-9)...)}, 8, 0x91},
	} {
		b, e := Put(c.u, guest, names)
		want := make([]byte, 8+len(c.u.Data))
		copy(want[4:], digits(len(want), 2))
		want[c.at] = c.x
		if e != api.OK || len(b) != len(want) || !bytes.Equal(b[:6], want[:6]) || !bytes.Equal(b[8:], want[8:]) {
			t.Errorf("Put(%d, %d, %d bytes): %d bytes, %d", c.u.Src, c.u.Dst, len(c.u.Data), len(b), e)
		}
	}
}

// P18.1: Data of few bytes, of the most, and of more.
func TestPutSizes(t *testing.T) {
	for n := range 600 {
		answersPut(t, plain(n), api.OK)
	}
	for n := 65500; n <= 65540; n++ {
		want := api.OK
		if n > 65507 {
			want = api.ErrArg
		}
		answersPut(t, plain(n), want)
		if b, _ := Put(plain(n), guest, names); want == api.OK && (len(b) != 8+n || int(b[4])*256+int(b[5]) != 8+n) {
			t.Errorf("Put with %d bytes: %d", n, len(b))
		}
	}
	for _, n := range []int{65528, 65535, 65536, 65537, 65536 + 8, 1 << 17, 1 << 20} {
		answersPut(t, plain(n), api.ErrArg)
	}
	answersPut(t, api.Udp{Src: 1, Dst: 2, Data: nil}, api.OK)
	answersPut(t, api.Udp{Src: 1, Dst: 2, Data: []byte{}}, api.OK)
}

// P18.1: Pseudo and all the bytes are Right, and no checksum is 0.
func TestPutIsRight(t *testing.T) {
	for _, s := range datagrams() {
		b, e := Put(s.u, s.src, s.dst)
		if e != api.OK || !sum.Right(slices.Concat(sum.Pseudo(s.src, s.dst, 17, len(b)), b)) || b[6] == 0 && b[7] == 0 {
			t.Fatalf("Put(%+v, %#x, %#x) = % x, %d", s.u, s.src, s.dst, b, e)
		}
	}
}

// P18.1: of all ports, addresses and Data that add up to each number, one checksum comes out 0, which is written as 65535; none else is.
func TestPutNought(t *testing.T) {
	for _, where := range []func(x int) sent{
		func(x int) sent { return sent{api.Udp{Src: x, Dst: 53}, guest, names} },
		func(x int) sent { return sent{api.Udp{Src: 53, Dst: x, Data: []byte{7}}, guest, names} },
		func(x int) sent { return sent{api.Udp{Src: 1, Dst: 2, Data: digits(x, 2)}, guest, names} },
		func(x int) sent { return sent{api.Udp{Src: 1, Dst: 2}, uint32(x), names} },
		func(x int) sent { return sent{api.Udp{Src: 1, Dst: 2}, guest, uint32(x) << 16} },
	} {
		noughts := 0
		for x := range 65535 {
			s := where(x)
			b, e := Put(s.u, s.src, s.dst)
			if e != api.OK || len(b) < 8 || b[6] == 0 && b[7] == 0 {
				t.Fatalf("Put(%+v, %#x, %#x) = % x, %d", s.u, s.src, s.dst, b, e)
			}
			bare := bytes.Clone(b)
			bare[6], bare[7] = 0, 0
			if b[6] == 255 && b[7] == 255 {
				noughts++
				if sum.Sum(slices.Concat(sum.Pseudo(s.src, s.dst, 17, len(b)), bare)) != 0 {
					t.Fatalf("Put(%+v, %#x, %#x) = % x", s.u, s.src, s.dst, b)
				}
			}
			puts(t, s)
		}
		if noughts != 1 {
			t.Errorf("%d of them are written as 65535", noughts)
		}
	}
}

// P18.1: several things wrong at once, or one, or none.
func TestPutSeveral(t *testing.T) {
	for which := range 8 {
		for _, wrong := range []int{-1, 65536} {
			u, want := plain(3), api.OK
			if which&1 != 0 {
				u.Src = wrong
			}
			if which&2 != 0 {
				u.Dst = wrong
			}
			if which&4 != 0 {
				u.Data = make([]byte, 65508)
			}
			if which != 0 {
				want = api.ErrArg
			}
			answersPut(t, u, want)
		}
	}
}

// P18.1: Put of datagrams of all kinds.
func TestPutDatagrams(t *testing.T) {
	for _, s := range datagrams() {
		puts(t, s)
	}
}
