package seg

import (
	"bytes"
	"math"
	"slices"
	"testing"

	"drawbridge/api"
	"drawbridge/sum"
)

// puts tells of a Put that is not as the chapter has it.
func puts(t *testing.T, s sent) {
	t.Helper()
	got, e := Put(s.s, s.src, s.dst)
	if want, number := putOf(s.s, s.src, s.dst); e != number || !bytes.Equal(got, want) {
		t.Fatalf("Put(%v, %d bytes; %#x, %#x) = % x, %d, not % x, %d", bare(s.s), len(s.s.Data), s.src, s.dst, got, e, want, number)
	}
}

// answersPut tells of a Put that does not answer a number; ErrArg comes without bytes.
func answersPut(t *testing.T, s api.Seg, want api.Errno) {
	t.Helper()
	got, e := Put(s, guest, remote)
	if e != want || (e == api.OK) == (len(got) == 0) {
		t.Errorf("Put(%v, %d bytes) = %d bytes, %d, not %d", bare(s), len(s.Data), len(got), e, want)
	}
	puts(t, sent{s, guest, remote})
}

// example is a segment, and its bytes, told one by one.
type example struct {
	sent
	want []byte
}

// examples are segments with their bytes: of even and odd lengths, with an Mss and without.
func examples() []example {
	syn := api.Seg{Src: 1024, Dst: 80, Seq: 0x01020304, Flags: api.Syn, Win: 4096, Mss: 1460}
	reply := api.Seg{Src: 80, Dst: 1024, Seq: 0x11223344, Ack: 0x01020305, Flags: api.Ack | api.Psh, Win: 8192, Data: []byte("hi")}
	odd := reply
	odd.Data = []byte("hi!")
	return []example{
		// 0006 + 0014 + 5000 is 501a.
		{sent{api.Seg{}, 0, 0}, []byte{0, 0, 0, 0, 0, 0, 0, 0, 0, 0, 0, 0, 0x50, 0, 0, 0, 0xaf, 0xe5, 0, 0}},
		// 0a00 + 020f + 5db8 + d822 + 0006 + 0018 + 0400 + 0050 + 0102 + 0304 + 6002 + 1000 + 0204 + 05b4 is 1c217, and so c218.
		{sent{syn, guest, remote}, []byte{4, 0, 0, 0x50, 1, 2, 3, 4, 0, 0, 0, 0, 0x60, 2, 0x10, 0, 0x3d, 0xe7, 0, 0, 2, 4, 0x05, 0xb4}},
		// 5db8 + d822 + 0a00 + 020f + 0006 + 0016 + 0050 + 0400 + 1122 + 3344 + 0102 + 0305 + 5018 + 2000 + 6869 is 26743, and so 6745.
		{sent{reply, remote, guest}, []byte{0, 0x50, 4, 0, 0x11, 0x22, 0x33, 0x44, 1, 2, 3, 5, 0x50, 0x18, 0x20, 0, 0x98, 0xba, 0, 0, 'h', 'i'}},
		// One more for the length, and 2100: 28844, and so 8846.
		{sent{odd, remote, guest}, []byte{0, 0x50, 4, 0, 0x11, 0x22, 0x33, 0x44, 1, 2, 3, 5, 0x50, 0x18, 0x20, 0, 0x77, 0xb9, 0, 0, 'h', 'i', '!'}},
		// 0a00 + 020f + 5db8 + d822 + 0006 + 0019 + 0400 + 0050 + 0102 + 0304 + 0a0b + 0c0d + 6012 + ffff + 0204 + 0001 + aa00 is 36c8c, and so 6c8f.
		{
			sent{api.Seg{Src: 1024, Dst: 80, Seq: 0x01020304, Ack: 0x0a0b0c0d, Flags: api.Ack | api.Syn, Win: 65535, Mss: 1, Data: []byte{0xaa}}, guest, remote},
			[]byte{4, 0, 0, 0x50, 1, 2, 3, 4, 0x0a, 0x0b, 0x0c, 0x0d, 0x60, 0x12, 0xff, 0xff, 0x93, 0x70, 0, 0, 2, 4, 0, 1, 0xaa},
		},
		// ffff twelve times, 0006 + 0019 + 603f + 0204 + ff00: 6163.
		{
			sent{greatest(1), math.MaxUint32, math.MaxUint32},
			[]byte{255, 255, 255, 255, 255, 255, 255, 255, 255, 255, 255, 255, 0x60, 0x3f, 255, 255, 0x9e, 0x9c, 0, 0, 2, 4, 255, 255, 255},
		},
		// 0006 + 0016 + 5000 + afe3 is ffff: it comes out 0, and is written so.
		{sent{api.Seg{Data: []byte{0xaf, 0xe3}}, 0, 0}, []byte{0, 0, 0, 0, 0, 0, 0, 0, 0, 0, 0, 0, 0x50, 0, 0, 0, 0, 0, 0, 0, 0xaf, 0xe3}},
	}
}

// P19.1, P19.2: whole segments, told byte by byte.
func TestExamples(t *testing.T) {
	for _, c := range examples() {
		if got, e := Put(c.s, c.src, c.dst); e != api.OK || !bytes.Equal(got, c.want) {
			t.Errorf("Put(%+v, %#x, %#x) = % x, %d, not % x", c.s, c.src, c.dst, got, e, c.want)
		}
		if got, e := Get(c.want, c.src, c.dst); e != api.OK || !same(got, c.s) {
			t.Errorf("Get(% x, %#x, %#x) = %+v, %d, not %+v", c.want, c.src, c.dst, got, e, c.s)
		}
	}
}

// P19.1: each number about 0 and its greatest, alone, and such as are cut to fewer bits.
func TestPutNumbers(t *testing.T) {
	for _, data := range []int{0, 1, 2} {
		for _, n := range numbers() {
			for _, mss := range []int{0, 1460} {
				s := withMss(plain(data), mss)
				for _, x := range []int{0, 1, n.most - 1, n.most} {
					*n.at(&s) = x
					answersPut(t, s, api.OK)
				}
				for _, x := range wrong(n.most) {
					*n.at(&s) = x
					answersPut(t, s, api.ErrArg)
				}
			}
		}
	}
}

// P19.1: each number through all of its values, and past both ends.
func TestPutEachNumber(t *testing.T) {
	for _, n := range numbers() {
		for x := -300; x <= n.most+300; x++ {
			s := plain(1)
			*n.at(&s) = x
			puts(t, sent{s, guest, remote})
			if _, e := Put(s, guest, remote); (e == api.OK) != (x >= 0 && x <= n.most) {
				t.Fatalf("Put with %s %d: %d", n.name, x, e)
			}
		}
	}
}

// P19.1: which byte is of which part: each of them alone is another.
func TestPutParts(t *testing.T) {
	none := []byte{0, 0, 0, 0, 0, 0, 0, 0, 0, 0, 0, 0, 0x50, 0, 0, 0, 0, 0, 0, 0}
	for _, c := range []struct {
		s    api.Seg
		at   int
		want []byte
	}{
		{api.Seg{Src: 0x9192}, 0, []byte{0x91, 0x92}},
		{api.Seg{Dst: 0x9192}, 2, []byte{0x91, 0x92}},
		{api.Seg{Seq: 0x91929394}, 4, []byte{0x91, 0x92, 0x93, 0x94}},
		{api.Seg{Ack: 0x91929394}, 8, []byte{0x91, 0x92, 0x93, 0x94}},
		{api.Seg{Flags: 0x31}, 13, []byte{0x31}},
		{api.Seg{Flags: api.Fin}, 13, []byte{1}},
		{api.Seg{Flags: api.Syn}, 13, []byte{2}},
		{api.Seg{Flags: api.Rst}, 13, []byte{4}},
		{api.Seg{Flags: api.Psh}, 13, []byte{8}},
		{api.Seg{Flags: api.Ack}, 13, []byte{16}},
		{api.Seg{Flags: api.Urg}, 13, []byte{32}},
		{api.Seg{Win: 0x9192}, 14, []byte{0x91, 0x92}},
		{api.Seg{Mss: 0x9192}, 20, []byte{2, 4, 0x91, 0x92}},
		{api.Seg{Mss: 1}, 20, []byte{2, 4, 0, 1}},
		{api.Seg{Mss: 0x9100}, 20, []byte{2, 4, 0x91, 0}},
		{api.Seg{Data: []byte{0x91, 0x92, 0x93}}, 20, []byte{0x91, 0x92, 0x93}},
		{api.Seg{Mss: 7, Data: []byte{0x91}}, 20, []byte{2, 4, 0, 7, 0x91}},
	} {
		want := slices.Concat(none[:c.at], c.want)
		if len(want) < 20 {
			want = append(want, none[len(want):]...)
		}
		if c.s.Mss != 0 {
			want[12] = 0x60
		}
		b, e := Put(c.s, guest, remote)
		if e == api.OK && len(b) >= 18 {
			b[16], b[17] = 0, 0
		}
		if e != api.OK || !bytes.Equal(b, want) {
			t.Errorf("Put(%+v) = % x, %d, not % x", c.s, b, e, want)
		}
	}
}

// P19.1: Data of no, few, the most and more bytes.
func TestPutSizes(t *testing.T) {
	for _, mss := range []int{0, 1, 1460} {
		head := 20
		if mss != 0 {
			head = 24
		}
		for n := range 300 {
			answersPut(t, withMss(plain(n), mss), api.OK)
		}
		for n := 59990; n <= 60010; n++ {
			want := api.OK
			if n > 60000 {
				want = api.ErrArg
			}
			s := withMss(plain(n), mss)
			answersPut(t, s, want)
			if b, _ := Put(s, guest, remote); want == api.OK && (len(b) != head+n || !bytes.Equal(b[head:], s.Data)) {
				t.Errorf("Put with %d bytes: %d", n, len(b))
			}
		}
		for _, n := range []int{65511, 65512, 65515, 65516, 65535, 65536, 65537, 1 << 17, 1 << 20} {
			answersPut(t, withMss(plain(n), mss), api.ErrArg)
		}
	}
	answersPut(t, api.Seg{Src: 1, Dst: 2, Data: nil}, api.OK)
	answersPut(t, api.Seg{Src: 1, Dst: 2, Data: []byte{}}, api.OK)
}

// P19.1: Seq and Ack have no bounds.
func TestPutSeqAck(t *testing.T) {
	edges := []uint32{0, 1, 255, 256, 65535, 65536, 1<<31 - 1, 1 << 31, 1<<31 + 1, math.MaxUint32 - 1, math.MaxUint32}
	for _, x := range edges {
		for _, y := range edges {
			s := plain(2)
			s.Seq, s.Ack = x, y
			answersPut(t, s, api.OK)
			b, _ := Put(s, guest, remote)
			if !bytes.Equal(b[4:12], slices.Concat(digits(int(x), 4), digits(int(y), 4))) {
				t.Errorf("Put with %d, %d: % x", x, y, b)
			}
		}
	}
}

// P19.1: Pseudo and all the bytes are Right.
func TestPutIsRight(t *testing.T) {
	for _, s := range segments() {
		b, e := Put(s.s, s.src, s.dst)
		if e != api.OK || !sum.Right(slices.Concat(sum.Pseudo(s.src, s.dst, 6, len(b)), b)) {
			t.Fatalf("Put(%+v, %#x, %#x) = % x, %d", s.s, s.src, s.dst, b, e)
		}
	}
}

// P19.1: of all numbers, addresses and Data that add up to each sum, one checksum comes out 0; it is written so, and none is written as 65535.
func TestPutNought(t *testing.T) {
	for _, where := range []func(x int) sent{
		func(x int) sent { return sent{api.Seg{Src: x, Dst: 53}, guest, remote} },
		func(x int) sent { return sent{api.Seg{Src: 53, Win: x, Data: []byte{7}}, guest, remote} },
		func(x int) sent { return sent{api.Seg{Src: 1, Dst: 2, Data: digits(x, 2)}, guest, remote} },
		func(x int) sent { return sent{api.Seg{Seq: uint32(x) << 16}, uint32(1), remote} },
		func(x int) sent { return sent{api.Seg{Src: 1, Dst: 2, Mss: 9}, guest, uint32(x)} },
	} {
		noughts := 0
		for x := range 65535 {
			s := where(x)
			b, e := Put(s.s, s.src, s.dst)
			if e != api.OK || len(b) < 20 || b[16] == 255 && b[17] == 255 {
				t.Fatalf("Put(%+v, %#x, %#x) = % x, %d", s.s, s.src, s.dst, b, e)
			}
			if b[16] == 0 && b[17] == 0 {
				noughts++
			}
			puts(t, s)
		}
		if noughts != 1 {
			t.Errorf("%d of them come out 0", noughts)
		}
	}
}

// P19.1: several things wrong at once, or one, or none.
func TestPutSeveral(t *testing.T) {
	list := numbers()
	for which := range 1 << (len(list) + 1) {
		for _, low := range []bool{false, true} {
			s, want := plain(3), api.OK
			for i, n := range list {
				if which>>i&1 == 1 {
					*n.at(&s) = n.most + 1
					if low {
						*n.at(&s) = -1
					}
				}
			}
			if which>>len(list) == 1 {
				s.Data = make([]byte, 60001)
			}
			if which != 0 {
				want = api.ErrArg
			}
			answersPut(t, s, want)
		}
	}
}

// P19.1: Put of segments of all kinds.
func TestPutSegments(t *testing.T) {
	for _, s := range segments() {
		puts(t, s)
	}
}

// P19.1: a head is another one, whole, when it is read again, just where a number of it has no room.
func TestHeadsCompared(t *testing.T) {
	for _, s := range segments() {
		if h, ok := headAt(headOf(s.s).bytes()); !ok || h != headOf(s.s) {
			t.Fatalf("the head of %v is %+v", bare(s.s), h)
		}
	}
	for _, n := range numbers() {
		for _, x := range wrong(n.most) {
			s := plain(0)
			*n.at(&s) = x
			if h, _ := headAt(headOf(s).bytes()); h == headOf(s) {
				t.Errorf("the head with %s %d is %+v", n.name, x, h)
			}
		}
	}
}
