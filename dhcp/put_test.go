package dhcp

import (
	"bytes"
	"math"
	"slices"
	"testing"

	"drawbridge/api"
)

// puts tells of a Put that is not as the chapter has it.
func puts(t *testing.T, d api.Dhcp) {
	t.Helper()
	got, e := Put(d)
	if want, number := putOf(d); e != number || !bytes.Equal(got, want) {
		t.Fatalf("Put(%+v) = % x, %d, not % x, %d", d, got, e, want, number)
	}
}

// answersPut tells of a Put that does not answer a number; ErrArg comes without bytes.
func answersPut(t *testing.T, d api.Dhcp, want api.Errno) {
	t.Helper()
	got, e := Put(d)
	if e != want || (e == api.OK) == (len(got) == 0) {
		t.Errorf("Put(%+v) = %d bytes, %d, not %d", d, len(got), e, want)
	}
	puts(t, d)
}

// example is a message, and its bytes, told one by one.
type example struct {
	d    api.Dhcp
	want []byte
}

// examples are messages with their bytes: one that asks, with no option but its type, and one that answers, with all.
func examples() []example {
	mac := []byte{0x52, 0x54, 0x00, 0x12, 0x34, 0x56}
	ask := api.Dhcp{Op: 1, Xid: 0x3903f326, Mac: mac, Type: api.DhcpDiscover}
	answer := api.Dhcp{
		Op: 2, Xid: 0x01020304, Ci: 0x0a00020f, Yi: 0x0a000210, Mac: mac, Type: api.DhcpAck, Want: 0x0a000211,
		Server: api.GateIp, Lease: 3600, Mask: 0xffffff00, Router: 0x0a000204, Dns: api.DnsIp,
	}
	return []example{
		{ask, []byte{
			1, 1, 6, 0, 0x39, 0x03, 0xf3, 0x26, 0, 0, 0, 0, 0, 0, 0, 0,
			0, 0, 0, 0, 0, 0, 0, 0, 0, 0, 0, 0, 0x52, 0x54, 0x00, 0x12,
			0x34, 0x56, 0, 0, 0, 0, 0, 0, 0, 0, 0, 0, 0, 0, 0, 0,
			0, 0, 0, 0, 0, 0, 0, 0, 0, 0, 0, 0, 0, 0, 0, 0,
			0, 0, 0, 0, 0, 0, 0, 0, 0, 0, 0, 0, 0, 0, 0, 0,
			0, 0, 0, 0, 0, 0, 0, 0, 0, 0, 0, 0, 0, 0, 0, 0,
			0, 0, 0, 0, 0, 0, 0, 0, 0, 0, 0, 0, 0, 0, 0, 0,
			0, 0, 0, 0, 0, 0, 0, 0, 0, 0, 0, 0, 0, 0, 0, 0,
			0, 0, 0, 0, 0, 0, 0, 0, 0, 0, 0, 0, 0, 0, 0, 0,
			0, 0, 0, 0, 0, 0, 0, 0, 0, 0, 0, 0, 0, 0, 0, 0,
			0, 0, 0, 0, 0, 0, 0, 0, 0, 0, 0, 0, 0, 0, 0, 0,
			0, 0, 0, 0, 0, 0, 0, 0, 0, 0, 0, 0, 0, 0, 0, 0,
			0, 0, 0, 0, 0, 0, 0, 0, 0, 0, 0, 0, 0, 0, 0, 0,
			0, 0, 0, 0, 0, 0, 0, 0, 0, 0, 0, 0, 0, 0, 0, 0,
			0, 0, 0, 0, 0, 0, 0, 0, 0, 0, 0, 0, 0x63, 0x82, 0x53, 0x63,
			53, 1, 1, 255,
		}},
		{answer, []byte{
			2, 1, 6, 0, 1, 2, 3, 4, 0, 0, 0, 0, 10, 0, 2, 15,
			10, 0, 2, 16, 0, 0, 0, 0, 0, 0, 0, 0, 0x52, 0x54, 0x00, 0x12,
			0x34, 0x56, 0, 0, 0, 0, 0, 0, 0, 0, 0, 0, 0, 0, 0, 0,
			0, 0, 0, 0, 0, 0, 0, 0, 0, 0, 0, 0, 0, 0, 0, 0,
			0, 0, 0, 0, 0, 0, 0, 0, 0, 0, 0, 0, 0, 0, 0, 0,
			0, 0, 0, 0, 0, 0, 0, 0, 0, 0, 0, 0, 0, 0, 0, 0,
			0, 0, 0, 0, 0, 0, 0, 0, 0, 0, 0, 0, 0, 0, 0, 0,
			0, 0, 0, 0, 0, 0, 0, 0, 0, 0, 0, 0, 0, 0, 0, 0,
			0, 0, 0, 0, 0, 0, 0, 0, 0, 0, 0, 0, 0, 0, 0, 0,
			0, 0, 0, 0, 0, 0, 0, 0, 0, 0, 0, 0, 0, 0, 0, 0,
			0, 0, 0, 0, 0, 0, 0, 0, 0, 0, 0, 0, 0, 0, 0, 0,
			0, 0, 0, 0, 0, 0, 0, 0, 0, 0, 0, 0, 0, 0, 0, 0,
			0, 0, 0, 0, 0, 0, 0, 0, 0, 0, 0, 0, 0, 0, 0, 0,
			0, 0, 0, 0, 0, 0, 0, 0, 0, 0, 0, 0, 0, 0, 0, 0,
			0, 0, 0, 0, 0, 0, 0, 0, 0, 0, 0, 0, 0x63, 0x82, 0x53, 0x63,
			53, 1, 5,
			50, 4, 10, 0, 2, 17,
			54, 4, 10, 0, 2, 2,
			51, 4, 0, 0, 0x0e, 0x10,
			1, 4, 255, 255, 255, 0,
			3, 4, 10, 0, 2, 4,
			6, 4, 10, 0, 2, 3,
			255,
		}},
	}
}

// P20.1, P20.2: whole messages, told byte by byte.
func TestExamples(t *testing.T) {
	for _, c := range examples() {
		if got, e := Put(c.d); e != api.OK || !bytes.Equal(got, c.want) {
			t.Errorf("Put(%+v) = % x, %d, not % x", c.d, got, e, c.want)
		}
		if got, e := Get(c.want); e != api.OK || !same(got, c.d) {
			t.Errorf("Get(% x) = %+v, %d, not %+v", c.want, got, e, c.d)
		}
	}
}

// The chapter's example: P20.1.
func TestDiscoverSize(t *testing.T) {
	b, e := Put(api.Dhcp{Op: 1, Mac: run(1, 6), Type: api.DhcpDiscover})
	if e != api.OK || len(b) != 244 {
		t.Errorf("%d bytes, %d", len(b), e)
	}
}

// P20.1: Op about its ends, and such as is right where it is cut to fewer bits.
func TestPutOp(t *testing.T) {
	for _, d := range []api.Dhcp{plain(1), full(), greatest()} {
		for op := -300; op <= 600; op++ {
			want := api.ErrArg
			if op == 1 || op == 2 {
				want = api.OK
			}
			d.Op = op
			answersPut(t, d, want)
			if b, _ := Put(d); want == api.OK && int(b[0]) != op {
				t.Errorf("Put with Op %d: % x", op, b)
			}
		}
		for _, op := range wrong(2) {
			d.Op = op
			answersPut(t, d, api.ErrArg)
		}
	}
}

// P20.1: Type through all that may be, past both ends, and such as is right where it is cut to fewer bits.
func TestPutType(t *testing.T) {
	for _, d := range []api.Dhcp{plain(1), full(), greatest()} {
		for kind := -300; kind <= 600; kind++ {
			want := api.ErrArg
			if kind >= 1 && kind <= 8 {
				want = api.OK
			}
			d.Type = kind
			answersPut(t, d, want)
			if b, _ := Put(d); want == api.OK && !bytes.Equal(b[240:243], []byte{53, 1, byte(kind)}) {
				t.Errorf("Put with Type %d: % x", kind, b[240:])
			}
		}
		for _, kind := range wrong(8) {
			d.Type = kind
			answersPut(t, d, api.ErrArg)
		}
	}
}

// P20.1: a Mac of six bytes, and of any other number of them.
func TestPutMac(t *testing.T) {
	for _, d := range []api.Dhcp{plain(1), full(), greatest()} {
		for n := range 300 {
			want := api.ErrArg
			if n == 6 {
				want = api.OK
			}
			d.Mac = run(7, n)
			answersPut(t, d, want)
		}
		for _, n := range []int{256 + 6, 65536 + 6, 1 << 20} {
			d.Mac = make([]byte, n)
			answersPut(t, d, api.ErrArg)
		}
		d.Mac = nil
		answersPut(t, d, api.ErrArg)
		for at := range 6 {
			d.Mac = make([]byte, 6)
			d.Mac[at] = 0x91
			b, e := Put(d)
			if e != api.OK || !bytes.Equal(b[20:60], slices.Concat(make([]byte, 8), d.Mac, make([]byte, 26))) {
				t.Errorf("Put with Mac % x: % x, %d", d.Mac, b, e)
			}
		}
	}
}

// P20.1: several things wrong at once, or one, or none.
func TestPutSeveral(t *testing.T) {
	for _, op := range []int{-1, 0, 1, 2, 3} {
		for _, mac := range []int{0, 5, 6, 7} {
			for _, kind := range []int{-1, 0, 1, 8, 9} {
				d, want := full(), api.ErrArg
				d.Op, d.Mac, d.Type = op, run(1, mac), kind
				if op == 1 && mac == 6 && kind == 1 || op == 2 && mac == 6 && kind == 1 || op == 1 && mac == 6 && kind == 8 || op == 2 && mac == 6 && kind == 8 {
					want = api.OK
				}
				answersPut(t, d, want)
			}
		}
	}
	answersPut(t, api.Dhcp{}, api.ErrArg)
}

// P20.1: which byte is of which part: each of them alone is another, and all others are noughts, or alike in all messages.
func TestPutParts(t *testing.T) {
	none, _ := putOf(least())
	for _, n := range longs() {
		for _, x := range edges() {
			d := least()
			*n.at(&d) = x
			want := bytes.Clone(none)
			if n.option == 0 {
				copy(want[n.head:], digits(int(x), 4))
			} else {
				want = slices.Concat(none[:243], []byte{n.option, 4}, digits(int(x), 4), []byte{255})
			}
			if b, e := Put(d); e != api.OK || !bytes.Equal(b, want) {
				t.Errorf("Put with %s %#x: % x, %d, not % x", n.name, x, b, e, want)
			}
		}
	}
}

// P20.1: all numbers of the head at once are where each of them is alone.
func TestPutHead(t *testing.T) {
	next := chance()
	for range 2000 {
		d := byChance(next)
		b, e := Put(d)
		if e != api.OK || !bytes.Equal(b[:240], headWritten(d)) {
			t.Fatalf("Put(%+v) = % x, %d", d, b, e)
		}
	}
}

// P20.1: each set of options: all stand in their order, whatever their numbers are; of 0 none does.
func TestPutOptions(t *testing.T) {
	list := optional()
	for which := range 1 << len(list) {
		for _, up := range []bool{false, true} {
			d := plain(3)
			want := []byte{53, 1, 3}
			for i, o := range list {
				if which>>i&1 == 0 {
					continue
				}
				x := uint32(100 - i)
				if up {
					x = uint32(i+1) << 24
				}
				*o.at(&d) = x
				want = slices.Concat(want, []byte{o.option, 4}, digits(int(x), 4))
			}
			b, e := Put(d)
			if e != api.OK || !bytes.Equal(b[240:], append(want, 255)) {
				t.Errorf("Put(%+v) = % x, %d, not % x", d, b[240:], e, append(want, 255))
			}
			puts(t, d)
		}
	}
}

// P20.1: the greatest numbers of four bytes, each alone and all at once; 255 stands behind all of it, and nothing behind that.
func TestPutGreatest(t *testing.T) {
	for _, n := range longs() {
		d := least()
		*n.at(&d) = math.MaxUint32
		answersPut(t, d, api.OK)
	}
	answersPut(t, greatest(), api.OK)
	for _, c := range []struct {
		d    api.Dhcp
		size int
	}{{least(), 244}, {plain(8), 244}, {full(), 280}, {greatest(), 280}} {
		if b, e := Put(c.d); e != api.OK || len(b) != c.size || b[c.size-1] != 255 {
			t.Errorf("Put(%+v) = % x, %d", c.d, b, e)
		}
	}
}

// P20.1: Put of messages of all kinds.
func TestPutMessages(t *testing.T) {
	for _, d := range messages() {
		answersPut(t, d, api.OK)
	}
}
