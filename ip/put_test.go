package ip

import (
	"bytes"
	"slices"
	"testing"

	"drawbridge/api"
	"drawbridge/sum"
)

// puts tells of a Put that is not as the chapter has it.
func puts(t *testing.T, p api.Ip) {
	t.Helper()
	got, e := Put(p)
	if want, number := putOf(p); e != number || !bytes.Equal(got, want) {
		t.Fatalf("Put(%+v) = % x, %d, not % x, %d", p, got, e, want, number)
	}
}

// refusesPut tells of a Put that does not refuse a packet.
func refusesPut(t *testing.T, name string, p api.Ip) {
	t.Helper()
	if got, e := Put(p); e != api.ErrArg || len(got) != 0 {
		t.Errorf("Put with %s: %d bytes, %d", name, len(got), e)
	}
}

// P17.1: Put of whole packets, told byte by byte, and Get of them.
func TestPutExamples(t *testing.T) {
	for _, c := range []struct {
		p    api.Ip
		want []byte
	}{
		{api.Ip{}, []byte{0x45, 0, 0, 20, 0, 0, 0, 0, 0, 0, 0xba, 0xeb, 0, 0, 0, 0, 0, 0, 0, 0}},
		{
			api.Ip{Flags: 2, Ttl: 64, Proto: api.ProtoUdp, Src: 0xc0a80001, Dst: 0xc0a800c7, Data: make([]byte, 95)},
			slices.Concat([]byte{0x45, 0, 0, 0x73, 0, 0, 0x40, 0, 0x40, 0x11, 0xb8, 0x61, 0xc0, 0xa8, 0, 1, 0xc0, 0xa8, 0, 0xc7}, make([]byte, 95)),
		},
		{
			api.Ip{Tos: 0x10, Id: 0x1234, Flags: 1, Off: 0x0203, Ttl: 0x40, Proto: api.ProtoTcp, Src: 0x0a00020f, Dst: api.GateIp, Data: []byte{0xde, 0xad, 0xbe}},
			[]byte{0x45, 0x10, 0, 23, 0x12, 0x34, 0x22, 0x03, 0x40, 6, 0x2e, 0x8a, 10, 0, 2, 15, 10, 0, 2, 2, 0xde, 0xad, 0xbe},
		},
		{
			api.Ip{Tos: 1, Id: 2, Flags: 7, Off: 8191, Ttl: 3, Proto: 4, Src: 5, Dst: 6, Options: []byte{7, 8, 9, 10}, Data: []byte{11, 12}},
			[]byte{0x46, 1, 0, 26, 0, 2, 0xff, 0xff, 3, 4, 0xa6, 0xc1, 0, 0, 0, 5, 0, 0, 0, 6, 7, 8, 9, 10, 11, 12},
		},
		{
			api.Ip{Options: run(1, 40), Data: []byte{0xff}},
			slices.Concat([]byte{0x4f, 0, 0, 61, 0, 0, 0, 0, 0, 0, 0x1f, 0x1d, 0, 0, 0, 0, 0, 0, 0, 0}, run(1, 40), []byte{0xff}),
		},
	} {
		if got, e := Put(c.p); e != api.OK || !bytes.Equal(got, c.want) {
			t.Errorf("Put(%+v) = % x, %d, not % x", c.p, got, e, c.want)
		}
		if got, e := Get(c.want); e != api.OK || !samePacket(got, c.p) {
			t.Errorf("Get(% x) = %+v, %d, not %+v", c.want, got, e, c.p)
		}
	}
}

// P17.1: each number alone: about 0 and its greatest, and far from them.
func TestPutNumbers(t *testing.T) {
	for _, n := range numbers() {
		for _, options := range []int{0, 4, 40} {
			p := plain(options, 9)
			for _, c := range []struct {
				x    int
				want api.Errno
			}{{-1, api.ErrArg}, {0, api.OK}, {1, api.OK}, {n.most - 1, api.OK}, {n.most, api.OK}, {n.most + 1, api.ErrArg}} {
				*n.at(&p) = c.x
				if _, e := Put(p); e != c.want {
					t.Errorf("Put with %s %d: %d, not %d", n.name, c.x, e, c.want)
				}
				puts(t, p)
			}
			for _, x := range wrong(n.most) {
				*n.at(&p) = x
				if x < 0 || x > n.most {
					refusesPut(t, n.name, p)
				}
				puts(t, p)
			}
		}
	}
}

// P17.1: each value that a number may have stands in its bytes alone, and none about them is one.
func TestPutEachNumber(t *testing.T) {
	for _, n := range numbers() {
		p := api.Ip{}
		for x := -300; x <= n.most+300; x++ {
			*n.at(&p) = x
			puts(t, p)
		}
	}
}

// P17.1: which bytes each number stands in: told for each bit of them.
func TestPutPlaces(t *testing.T) {
	bare, _ := Put(api.Ip{})
	for _, c := range []struct {
		p  api.Ip
		at int
		x  byte
	}{
		{p: api.Ip{Tos: 0x91}, at: 1, x: 0x91},
		{p: api.Ip{Id: 0x9100}, at: 4, x: 0x91},
		{p: api.Ip{Id: 0x91}, at: 5, x: 0x91},
		{p: api.Ip{Flags: 1}, at: 6, x: 0x20},
		{p: api.Ip{Flags: 2}, at: 6, x: 0x40},
		{p: api.Ip{Flags: 4}, at: 6, x: 0x80},
		{p: api.Ip{Off: 0x1100}, at: 6, x: 0x11},
		{p: api.Ip{Off: 0x91}, at: 7, x: 0x91},
		{p: api.Ip{Ttl: 0x91}, at: 8, x: 0x91},
		{p: api.Ip{Proto: 0x91}, at: 9, x: 0x91},
		{p: api.Ip{Src: 0x91000000}, at: 12, x: 0x91},
		{p: api.Ip{Src: 0x910000}, at: 13, x: 0x91},
		{p: api.Ip{Src: 0x9100}, at: 14, x: 0x91},
		{p: api.Ip{Src: 0x91}, at: 15, x: 0x91},
		{p: api.Ip{Dst: 0x91000000}, at: 16, x: 0x91},
		{p: api.Ip{Dst: 0x910000}, at: 17, x: 0x91},
		{p: api.Ip{Dst: 0x9100}, at: 18, x: 0x91},
		{p: api.Ip{Dst: 0x91}, at: 19, x: 0x91},
	} {
		want := bytes.Clone(bare)
		want[c.at] = c.x
		got, e := Put(c.p)
		if e != api.OK || len(got) != 20 || !bytes.Equal(got[:10], want[:10]) || !bytes.Equal(got[12:], want[12:]) || !sum.Right(got) {
			t.Errorf("Put(%+v) = % x, %d", c.p, got, e)
		}
	}
}

// P17.1: Options of each number of bytes.
func TestPutOptions(t *testing.T) {
	for n := range 100 {
		p := plain(n, 5)
		puts(t, p)
		got, e := Put(p)
		if n%4 != 0 || n > 40 {
			refusesPut(t, "Options", p)
			continue
		}
		if e != api.OK || len(got) != 25+n || int(got[0]) != 0x45+n/4 || !bytes.Equal(got[20:20+n], p.Options) || !bytes.Equal(got[20+n:], p.Data) {
			t.Errorf("Put with %d bytes of Options: % x, %d", n, got, e)
		}
	}
	for n, want := range map[int]api.Errno{0: api.OK, 1: api.ErrArg, 3: api.ErrArg, 4: api.OK, 40: api.OK, 41: api.ErrArg, 44: api.ErrArg} {
		if _, e := Put(plain(n, 0)); e != want {
			t.Errorf("Put with %d bytes of Options: %d", n, e)
		}
	}
	for _, n := range []int{256, 260, 65512, 65536, 65540, 1 << 20} {
		refusesPut(t, "Options", plain(n, 5))
	}
}

// P17.1: packets of the most bytes, with and without Options, and of more.
func TestPutSizes(t *testing.T) {
	for options := 0; options <= 40; options += 4 {
		for all := 65530; all <= 65545; all++ {
			p := plain(options, all-20-options)
			puts(t, p)
			got, e := Put(p)
			if all > 65535 {
				refusesPut(t, "many bytes", p)
			} else if e != api.OK || len(got) != all || int(got[2])*256+int(got[3]) != all {
				t.Errorf("Put of %d bytes: %d, %d", all, len(got), e)
			}
		}
	}
	for _, n := range []int{65535, 65536, 65536 + 20, 1 << 17, 1 << 20} {
		refusesPut(t, "many bytes", plain(0, n))
	}
	for n := range 600 {
		puts(t, plain(n%11*4, n))
	}
}

// P17.1: the head's checksum is Right, whatever Data are.
func TestPutIsRight(t *testing.T) {
	for _, p := range packets() {
		b, e := Put(p)
		head := 20 + len(p.Options)
		if e != api.OK || !sum.Right(b[:head]) {
			t.Fatalf("Put(%+v) = % x, %d", p, b, e)
		}
		p.Data = bytes.Repeat([]byte{0x5a}, len(p.Data))
		if other, _ := Put(p); !bytes.Equal(b[:head], other[:head]) {
			t.Fatalf("the head goes with Data: % x, % x", b[:head], other[:head])
		}
	}
}

// P17.1: several things wrong at once, or one, or none.
func TestPutSeveral(t *testing.T) {
	list := numbers()
	for which := range 1 << (len(list) + 2) {
		p := plain(4, 3)
		for i, n := range list {
			if which>>i&1 == 1 {
				*n.at(&p) = n.most + 1
				if which%3 == 0 {
					*n.at(&p) = -1
				}
			}
		}
		if which>>len(list)&1 == 1 {
			p.Options = run(0, 42)
		}
		if which>>len(list)&2 == 2 {
			p.Data = make([]byte, 65535)
		}
		puts(t, p)
		if _, e := Put(p); (e == api.OK) != (which == 0) {
			t.Errorf("Put with the wrong ones %b: %d", which, e)
		}
	}
}

// P17.1: Put of packets of all kinds.
func TestPutPackets(t *testing.T) {
	for _, p := range packets() {
		puts(t, p)
	}
}
