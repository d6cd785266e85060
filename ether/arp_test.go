package ether

import (
	"bytes"
	"errors"
	"slices"
	"testing"

	"drawbridge/api"
)

// asks answers a message each of whose bytes is another.
func asks() api.Arp {
	return api.Arp{Op: 1, Smac: []byte{21, 22, 23, 24, 25, 26}, Sip: 0x1f202122, Tmac: []byte{41, 42, 43, 44, 45, 46}, Tip: 0x33343536}
}

// putsArp tells of a PutArp that is not as the chapter has it.
func putsArp(t *testing.T, a api.Arp) {
	t.Helper()
	got, e := PutArp(a)
	if want, number := putArpOf(a); e != number || !bytes.Equal(got, want) {
		t.Fatalf("PutArp(%x) = % x, %d, not % x, %d", a, got, e, want, number)
	}
}

// getsArp tells of a GetArp that is not as the chapter has it.
func getsArp(t *testing.T, b []byte) {
	t.Helper()
	got, e := GetArp(b)
	if want, number := getArpOf(b); e != number || !sameArp(got, want) {
		t.Fatalf("GetArp(% x) = %x, %d, not %x, %d", b, got, e, want, number)
	}
}

// P16.2: the chapter's example: a message asks for 10.0.2.2, told byte by byte.
func TestExample(t *testing.T) {
	a := api.Arp{Op: 1, Smac: []byte{0x52, 0x54, 0x00, 0x12, 0x34, 0x56}, Sip: 0x0a00020f, Tmac: make([]byte, 6), Tip: api.GateIp}
	want := []byte{
		0, 1, 8, 0, 6, 4, 0, 1,
		0x52, 0x54, 0x00, 0x12, 0x34, 0x56, 10, 0, 2, 15,
		0, 0, 0, 0, 0, 0, 10, 0, 2, 2,
	}
	got, e := PutArp(a)
	if e != api.OK || len(got) != 28 || !bytes.Equal(got, want) {
		t.Errorf("PutArp = % x, %d", got, e)
	}
	if back, e := GetArp(want); e != api.OK || !sameArp(back, a) {
		t.Errorf("GetArp = %x, %d", back, e)
	}
}

// P16.2: all 28 bytes, one by one.
func TestPutArpBytes(t *testing.T) {
	b, e := PutArp(asks())
	want := []byte{
		0, 1, // of Ethernet
		8, 0, // of IPv4
		6, 4, // so many bytes
		0, 1, // Op
		21, 22, 23, 24, 25, 26, // Smac
		0x1f, 0x20, 0x21, 0x22, // Sip
		41, 42, 43, 44, 45, 46, // Tmac
		0x33, 0x34, 0x35, 0x36, // Tip
	}
	if e != api.OK || len(b) != len(want) {
		t.Fatalf("PutArp = % x, %d", b, e)
	}
	for i := range want {
		if b[i] != want[i] {
			t.Errorf("byte %d is %d, not %d", i, b[i], want[i])
		}
	}
}

// P16.2: PutArp of addresses that have not 6 bytes, each alone and both.
func TestPutArpMacs(t *testing.T) {
	for _, mac := range wrongMacs() {
		for op := 1; op <= 2; op++ {
			for _, a := range []api.Arp{
				{Op: op, Smac: mac, Sip: 1, Tmac: run(1, 6), Tip: 2},
				{Op: op, Smac: run(1, 6), Sip: 1, Tmac: mac, Tip: 2},
				{Op: op, Smac: mac, Sip: 1, Tmac: mac, Tip: 2},
			} {
				if b, e := PutArp(a); e != api.ErrArg || len(b) != 0 {
					t.Errorf("PutArp with addresses of %d and %d bytes: % x, %d", len(a.Smac), len(a.Tmac), b, e)
				}
			}
		}
	}
	// Twelve bytes in both are not enough.
	for n := range 13 {
		b, e := PutArp(api.Arp{Op: 1, Smac: run(1, n), Tmac: run(1+n, 12-n)})
		if (e == api.OK) != (n == 6) || e != api.OK && (e != api.ErrArg || len(b) != 0) {
			t.Errorf("PutArp with addresses of %d and %d bytes: % x, %d", n, 12-n, b, e)
		}
	}
}

// P16.2: PutArp of each Op about those that there are, and of far ones.
func TestPutArpOps(t *testing.T) {
	a := asks()
	for a.Op = -70000; a.Op < 70000; a.Op++ {
		b, e := PutArp(a)
		if a.Op != 1 && a.Op != 2 {
			if e != api.ErrArg || len(b) != 0 {
				t.Fatalf("PutArp with Op %d: % x, %d", a.Op, b, e)
			}
		} else if e != api.OK || len(b) != 28 || b[6] != 0 || int(b[7]) != a.Op {
			t.Fatalf("PutArp with Op %d: % x, %d", a.Op, b, e)
		}
	}
	for _, a.Op = range wrongOps {
		if b, e := PutArp(a); e != api.ErrArg || len(b) != 0 {
			t.Errorf("PutArp with Op %d: % x, %d", a.Op, b, e)
		}
	}
}

// P16.2: PutArp of addresses from 0 to the greatest one.
func TestPutArpIps(t *testing.T) {
	for _, c := range []struct {
		ip   uint32
		want []byte
	}{
		{0, []byte{0, 0, 0, 0}},
		{1, []byte{0, 0, 0, 1}},
		{0x100, []byte{0, 0, 1, 0}},
		{0x10000, []byte{0, 1, 0, 0}},
		{0x1000000, []byte{1, 0, 0, 0}},
		{0x7fffffff, []byte{127, 255, 255, 255}},
		{0x80000000, []byte{128, 0, 0, 0}},
		{0xffffffff, []byte{255, 255, 255, 255}},
	} {
		a := asks()
		a.Sip = c.ip
		if b, e := PutArp(a); e != api.OK || len(b) != 28 || !bytes.Equal(b[14:18], c.want) || !bytes.Equal(b[24:28], []byte{0x33, 0x34, 0x35, 0x36}) {
			t.Errorf("PutArp with Sip %#x: % x, %d", c.ip, b, e)
		}
		a = asks()
		a.Tip = c.ip
		if b, e := PutArp(a); e != api.OK || len(b) != 28 || !bytes.Equal(b[24:28], c.want) || !bytes.Equal(b[14:18], []byte{0x1f, 0x20, 0x21, 0x22}) {
			t.Errorf("PutArp with Tip %#x: % x, %d", c.ip, b, e)
		}
	}
}

// P16.2: PutArp of messages of all kinds, and where one thing is wrong, several are, or none.
func TestPutArpMessages(t *testing.T) {
	for _, a := range messages() {
		putsArp(t, a)
	}
	lists := append(wrongMacs(), run(1, 6))
	for _, smac := range lists {
		for _, tmac := range lists {
			for op := -1; op <= 4; op++ {
				putsArp(t, api.Arp{Op: op, Smac: smac, Sip: 3, Tmac: tmac, Tip: 4})
			}
		}
	}
	if b, e := PutArp(api.Arp{}); e != api.ErrArg || len(b) != 0 {
		t.Errorf("PutArp of a zero message: % x, %d", b, e)
	}
}

// P16.2: GetArp of each number of bytes, with whatever stands behind.
func TestGetArpSizes(t *testing.T) {
	right, _ := PutArp(asks())
	for _, behind := range [][]byte{make([]byte, 3000), bytes.Repeat([]byte{255}, 3000), text(3000, chance()), slices.Repeat(right, 100)} {
		all := slices.Concat(right, behind)
		for n := range all {
			got, e := GetArp(all[:n])
			if n < 28 {
				if e != api.ErrShort || !sameArp(got, api.Arp{}) {
					t.Fatalf("GetArp of %d bytes: %x, %d", n, got, e)
				}
			} else if e != api.OK || !sameArp(got, asks()) {
				t.Fatalf("GetArp of %d bytes: %x, %d", n, got, e)
			}
		}
	}
	for _, b := range [][]byte{nil, {}} {
		if got, e := GetArp(b); e != api.ErrShort || !sameArp(got, api.Arp{}) {
			t.Errorf("GetArp of nothing: %x, %d", got, e)
		}
	}
}

// P16.2: bytes that are too few are so whatever they are, and those that are no message's are so with whatever stands behind.
func TestGetArpOfOthers(t *testing.T) {
	for n := range 60 {
		for _, b := range [][]byte{make([]byte, n), bytes.Repeat([]byte{255}, n), run(1, n)} {
			want := api.ErrForm
			if n < 28 {
				want = api.ErrShort
			}
			if got, e := GetArp(b); e != want || !sameArp(got, api.Arp{}) {
				t.Errorf("GetArp(% x) = %x, %d", b, got, e)
			}
		}
	}
	// A message that does not stand at the beginning is none.
	right, _ := PutArp(asks())
	for n := 1; n < 40; n++ {
		if got, e := GetArp(slices.Concat(make([]byte, n), right)); e != api.ErrForm || !sameArp(got, api.Arp{}) {
			t.Errorf("GetArp behind %d bytes: %x, %d", n, got, e)
		}
	}
}

// P16.2: each of the first eight bytes another, by each number; what stands behind them may be any.
func TestGetArpHead(t *testing.T) {
	right, _ := PutArp(asks())
	for at := range 28 {
		for x := range 256 {
			for _, n := range []int{28, 46} {
				b := slices.Concat(right, make([]byte, 18))[:n]
				b[at] = byte(x)
				getsArp(t, b)
				_, e := GetArp(b)
				same := byte(x) == right[at]
				if want := at >= 8 || same || at == 7 && x == 2; want != (e == api.OK) || !want && e != api.ErrForm {
					t.Fatalf("GetArp with byte %d as %d: %d", at, x, e)
				}
			}
		}
	}
}

// P16.2: GetArp of each Op that two bytes tell.
func TestGetArpOps(t *testing.T) {
	b, _ := PutArp(asks())
	for op := range 65536 {
		b[6], b[7] = byte(op/256), byte(op%256)
		a, e := GetArp(b)
		if op == 1 || op == 2 {
			want := asks()
			want.Op = op
			if e != api.OK || !sameArp(a, want) {
				t.Errorf("GetArp with Op %d: %x, %d", op, a, e)
			}
		} else if e != api.ErrForm || !sameArp(a, api.Arp{}) {
			t.Fatalf("GetArp with Op %d: %x, %d", op, a, e)
		}
	}
}

// P16.2: which bytes are Smac, Sip, Tmac and Tip: each byte alone is another.
func TestGetArpParts(t *testing.T) {
	for at := 8; at < 28; at++ {
		for _, x := range []byte{1, 128, 255} {
			b := slices.Concat([]byte{0, 1, 8, 0, 6, 4, 0, 2}, make([]byte, 20))
			b[at] = x
			want := api.Arp{Op: 2, Smac: make([]byte, 6), Tmac: make([]byte, 6)}
			switch {
			case at < 14:
				want.Smac[at-8] = x
			case at < 18:
				want.Sip = uint32(x) << (8 * (17 - at))
			case at < 24:
				want.Tmac[at-18] = x
			default:
				want.Tip = uint32(x) << (8 * (27 - at))
			}
			if got, e := GetArp(b); e != api.OK || !sameArp(got, want) {
				t.Errorf("GetArp(% x) = %x, %d", b, got, e)
			}
		}
	}
}

// P16.4: GetArp of PutArp is the message, for the smallest and the greatest of everything; PutArp of GetArp are the bytes.
func TestGetArpOfPutArp(t *testing.T) {
	for _, a := range messages() {
		b, e := PutArp(a)
		if e != api.OK || len(b) != 28 {
			t.Fatalf("PutArp(%x) = % x, %d", a, b, e)
		}
		got, e := GetArp(b)
		if e != api.OK || !sameArp(got, a) {
			t.Fatalf("GetArp(PutArp(%x)) = %x, %d", a, got, e)
		}
		if again, e := PutArp(got); e != api.OK || !bytes.Equal(again, b) {
			t.Fatalf("PutArp(GetArp(% x)) = % x, %d", b, again, e)
		}
	}
	next := chance()
	for range 5000 {
		b := slices.Concat([]byte{0, 1, 8, 0, 6, 4, 0, byte(1 + next()%2)}, text(20+next()%30, next))
		a, e := GetArp(b)
		if e != api.OK {
			t.Fatalf("GetArp(% x): %d", b, e)
		}
		if again, e := PutArp(a); e != api.OK || !bytes.Equal(again, b[:28]) {
			t.Fatalf("PutArp(GetArp(% x)) = % x, %d", b, again, e)
		}
	}
}

// P16.2, P16.4: a message on its way in a frame, with noughts behind it as short frames have them.
func TestArpInFrame(t *testing.T) {
	for _, a := range messages() {
		b, _ := PutArp(a)
		f, e := Put(api.Frame{Dst: bytes.Repeat([]byte{255}, 6), Src: a.Smac, Type: api.TypeArp, Data: slices.Concat(b, make([]byte, 18))})
		if e != api.OK || len(f) != 60 {
			t.Fatalf("Put: % x, %d", f, e)
		}
		back, e := Get(f)
		if e != api.OK || back.Type != api.TypeArp {
			t.Fatalf("Get: %x, %d", back, e)
		}
		if got, e := GetArp(back.Data); e != api.OK || !sameArp(got, a) {
			t.Fatalf("GetArp: %x, %d", got, e)
		}
	}
}

// P16.2: why bytes are no message is found by errors.Is, and told.
func TestWhyNoMessage(t *testing.T) {
	head := []byte{0, 1, 8, 0, 6, 4, 0, 3}
	for _, c := range []struct {
		b    []byte
		want error
		told string
	}{
		{nil, errShort, "0 bytes are no message: they are too few"},
		{make([]byte, 27), errShort, "27 bytes are no message: they are too few"},
		{make([]byte, 28), errOther, "28 bytes are no message: they are of another form"},
		{slices.Concat(head, make([]byte, 30)), errOther, "38 bytes are no message: they are of another form"},
	} {
		b, _ := roomy(c.b)
		_, err := message(b)
		for _, why := range []error{errShort, errLong, errOther} {
			if errors.Is(err, why) != (why == c.want) {
				t.Errorf("% x: %v", c.b, err)
			}
		}
		if err == nil || err.Error() != c.told {
			t.Errorf("% x: %v", c.b, err)
		}
	}
	right, _ := PutArp(asks())
	if _, err := message(right); err != nil {
		t.Error(err)
	}
}
