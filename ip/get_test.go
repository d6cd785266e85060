package ip

import (
	"bytes"
	"errors"
	"slices"
	"testing"

	"drawbridge/api"
	"drawbridge/sum"
)

// gets tells of a Get that is not as the chapter has it.
func gets(t *testing.T, b []byte) {
	t.Helper()
	got, e := Get(b)
	if want, number := getOf(b); e != number || !samePacket(got, want) {
		t.Fatalf("Get(% x) = %+v, %d, not %+v, %d", b, got, e, want, number)
	}
}

// answersGet tells of a Get that does not answer a number; all but OK come without a packet.
func answersGet(t *testing.T, b []byte, want api.Errno) {
	t.Helper()
	got, e := Get(b)
	if e != want || e != api.OK && !samePacket(got, api.Ip{}) {
		t.Fatalf("Get(% x) = %+v, %d, not %d", b, got, e, want)
	}
	gets(t, b)
}

// righted answers b with the head that its first byte tells made right.
func righted(b []byte) []byte {
	head := int(b[0]%16) * 4
	return slices.Concat(summed(b[:head], 10), b[head:])
}

// bytesOf answers the bytes of a packet.
func bytesOf(p api.Ip) []byte {
	b, _ := putOf(p)
	return b
}

// P17.2: Get of each number of bytes, of a packet with Options and without.
func TestGetSizes(t *testing.T) {
	for options := 0; options <= 40; options += 4 {
		b := slices.Concat(bytesOf(plain(options, 30)), run(0, 40))
		for n := range b {
			want := api.OK
			if n < 20+options+30 {
				want = api.ErrShort
			}
			answersGet(t, b[:n], want)
		}
	}
	for _, b := range [][]byte{nil, {}} {
		answersGet(t, b, api.ErrShort)
	}
	bare := bytesOf(api.Ip{})
	answersGet(t, bare[:19], api.ErrShort)
	answersGet(t, bare, api.OK)
	answersGet(t, append(bare, 7), api.OK)
}

// P17.2: each first byte, of which the four bits above and those below are asked.
func TestGetFirstByte(t *testing.T) {
	for first := range 256 {
		for _, n := range []int{20, 21, 59, 60, 61, 100} {
			b := make([]byte, n)
			b[0], b[3] = byte(first), 20
			head := first % 16 * 4
			if head >= 12 && head <= n {
				b = righted(b)
			}
			want := api.OK
			switch {
			case first < 0x45 || first > 0x4f:
				want = api.ErrForm
			case n < head:
				want = api.ErrShort
			case head > 20:
				want = api.ErrForm // just 20 bytes are told
			}
			answersGet(t, b, want)
			if len(b) >= 60 && first >= 0x45 && first <= 0x4f {
				b[3] = byte(head)
				answersGet(t, righted(b), api.OK)
			}
		}
	}
}

// P17.2: bytes that are too few are told ahead of all else that is wrong with them.
func TestGetShortFirst(t *testing.T) {
	for first := range 256 {
		for n := 1; n < 20; n++ {
			b := make([]byte, n)
			b[0] = byte(first)
			answersGet(t, b, api.ErrShort)
		}
	}
}

// P17.2: bytes that are fewer than the head, and just as many.
func TestGetFewerThanHead(t *testing.T) {
	for options := 0; options <= 40; options += 4 {
		b := bytesOf(plain(options, 0))
		for n := 20; n < len(b); n++ {
			answersGet(t, b[:n], api.ErrShort)
		}
		answersGet(t, b, api.OK)
	}
}

// P17.2: each byte of the head another: its checksum is wrong; made right again, all but the first byte and the length is well.
func TestGetOtherBytes(t *testing.T) {
	for options := 0; options <= 40; options += 20 {
		good := bytesOf(plain(options, 10))
		for at := 1; at < 20+options; at++ {
			for _, turn := range []byte{1, 2, 0x10, 0x80, 0xff} {
				b := bytes.Clone(good)
				b[at] ^= turn
				if at == 10 || at == 11 {
					// A checksum of all ones counts as one of all noughts.
					if sumOf(b[:20+options]) != 0 {
						answersGet(t, b, api.ErrSum)
					}
					answersGet(t, righted(b), api.OK)
					continue
				}
				answersGet(t, b, api.ErrSum)
				if at != 2 && at != 3 {
					answersGet(t, righted(b), api.OK)
				}
				gets(t, righted(b))
			}
		}
	}
}

// P17.2: bytes behind the head are not summed.
func TestGetOtherData(t *testing.T) {
	b := bytesOf(plain(8, 40))
	for at := 28; at < len(b); at++ {
		b[at] ^= 0x55
		answersGet(t, b, api.OK)
	}
}

// P17.2: a checksum of all ones, where all noughts would do, is Right, too.
func TestGetOtherChecksum(t *testing.T) {
	b := bytesOf(api.Ip{Id: 0xbaeb})
	if b[10] != 0 || b[11] != 0 {
		t.Fatalf("% x", b)
	}
	answersGet(t, b, api.OK)
	b[10], b[11] = 255, 255
	answersGet(t, b, api.OK)
	b[11] = 254
	answersGet(t, b, api.ErrSum)
}

// told answers b with another length told, and made right again.
func told(b []byte, size int) []byte {
	b = bytes.Clone(b)
	copy(b[2:], digits(size, 2))
	return righted(b)
}

// P17.2: a length that is told: of less than the head, of just the head, of fewer bytes, of all, of more.
func TestGetTold(t *testing.T) {
	for options := 0; options <= 40; options += 4 {
		head := 20 + options
		for data := range 12 {
			p := plain(options, data)
			b := bytesOf(p)
			for size := range 200 {
				want := api.OK
				switch {
				case size < head:
					want = api.ErrForm
				case size > len(b):
					want = api.ErrShort
				}
				answersGet(t, told(b, size), want)
				if want == api.OK {
					q := p
					q.Data = p.Data[:size-head]
					if got, _ := Get(told(b, size)); !samePacket(got, q) {
						t.Fatalf("Get(% x) = %+v, not %+v", told(b, size), got, q)
					}
				}
			}
			for _, size := range []int{256, 276, 512, 532, 32768, 65280, 65534, 65535} {
				answersGet(t, told(b, size), api.ErrShort)
			}
		}
	}
}

// P17.2: what is behind is not looked at.
func TestGetBehind(t *testing.T) {
	for _, options := range []int{0, 12, 40} {
		for _, data := range []int{0, 1, 8, 65535 - 20 - options} {
			p := plain(options, data)
			for _, behind := range [][]byte{{0}, {255}, run(3, 26), make([]byte, 70000)} {
				b := slices.Concat(bytesOf(p), behind)
				if got, e := Get(b); e != api.OK || !samePacket(got, p) {
					t.Fatalf("Get of %d bytes behind: %d", len(behind), e)
				}
			}
		}
	}
}

// P17.2: of two reasons the first in order is told.
func TestGetFirstReason(t *testing.T) {
	wrongSum := func(b []byte) []byte {
		c := bytes.Clone(b)
		c[11]++
		return c
	}
	good := bytesOf(plain(8, 10))
	other := bytes.Clone(good)
	other[0] = 0x57
	small := bytes.Clone(good)
	small[0] = 0x44
	for _, c := range []struct {
		name string
		b    []byte
		want api.Errno
	}{
		{"too few, and of another version", other[:19], api.ErrShort},
		{"too few, and a small head", small[:19], api.ErrShort},
		{"another version, and fewer than the head", other[:27], api.ErrForm},
		{"another version, and a wrong checksum", wrongSum(other), api.ErrForm},
		{"a small head, and a wrong checksum", wrongSum(small), api.ErrForm},
		{"a small head, and a length of more", told(small, 500), api.ErrForm},
		{"fewer than the head, and a wrong checksum", wrongSum(good)[:27], api.ErrShort},
		{"fewer than the head, and a length of less", told(good, 5)[:27], api.ErrShort},
		{"a wrong checksum, and a length of less", wrongSum(told(good, 27)), api.ErrSum},
		{"a wrong checksum, and a length of more", wrongSum(told(good, 39)), api.ErrSum},
		{"a length of less", told(good, 27), api.ErrForm},
		{"a length of more", told(good, 39), api.ErrShort},
		{"a length of less, with few bytes", told(good, 27)[:28], api.ErrForm},
		{"nothing wrong", good, api.OK},
	} {
		if got, e := Get(c.b); e != c.want || e != api.OK && !samePacket(got, api.Ip{}) {
			t.Errorf("%s: %+v, %d, not %d", c.name, got, e, c.want)
		}
	}
}

// P17.2: which bytes are which part: each of them alone is another.
func TestGetParts(t *testing.T) {
	bare := bytesOf(api.Ip{Options: make([]byte, 12), Data: make([]byte, 8)})
	for at := range bare {
		if at == 0 || at == 2 || at == 3 || at == 10 || at == 11 {
			continue
		}
		for _, x := range []int{1, 0x12, 0x80, 0xff} {
			b := bytes.Clone(bare)
			b[at] = byte(x)
			b = righted(b)
			want := api.Ip{Options: make([]byte, 12), Data: make([]byte, 8)}
			switch {
			case at == 1:
				want.Tos = x
			case at == 4:
				want.Id = 256 * x
			case at == 5:
				want.Id = x
			case at == 6:
				want.Flags, want.Off = x/32, x%32*256
			case at == 7:
				want.Off = x
			case at == 8:
				want.Ttl = x
			case at == 9:
				want.Proto = x
			case at < 16:
				want.Src = uint32(x) << (8 * (15 - at))
			case at < 20:
				want.Dst = uint32(x) << (8 * (19 - at))
			case at < 32:
				want.Options[at-20] = byte(x)
			default:
				want.Data[at-32] = byte(x)
			}
			if got, e := Get(b); e != api.OK || !samePacket(got, want) {
				t.Errorf("Get(% x) = %+v, %d", b, got, e)
			}
		}
	}
}

// P17.2: each two bytes in which Flags and Off stand.
func TestGetFlags(t *testing.T) {
	for x := range 65536 {
		b := bytesOf(api.Ip{Data: []byte{1}})
		b[6], b[7] = byte(x/256), byte(x%256)
		got, e := Get(righted(b))
		if e != api.OK || got.Flags != x/8192 || got.Off != x%8192 || len(got.Data) != 1 {
			t.Fatalf("Get with %#x: %+v, %d", x, got, e)
		}
	}
}

// P17.5: Get of Put is the packet, with bytes behind it, too; Put of Get are its bytes.
func TestGetOfPut(t *testing.T) {
	for i, p := range packets() {
		b, e := Put(p)
		if e != api.OK {
			t.Fatalf("Put(%+v): %d", p, e)
		}
		for _, behind := range [][]byte{nil, run(i, 1+i%30)} {
			got, e := Get(slices.Concat(b, behind))
			if e != api.OK || !samePacket(got, p) {
				t.Fatalf("Get(Put(%+v)) = %+v, %d", p, got, e)
			}
			if again, e := Put(got); e != api.OK || !bytes.Equal(again, b) {
				t.Fatalf("Put(Get(% x)) = % x, %d", b, again, e)
			}
		}
	}
}

// P17.2: why bytes are no packet is a refusal, which errors.As finds, and which tells its words.
func TestWhyNoPacket(t *testing.T) {
	good := bytesOf(plain(8, 10))
	other, small, wrong := bytes.Clone(good), bytes.Clone(good), bytes.Clone(good)
	other[0], small[0], wrong[1] = 0x67, 0x44, 0
	for _, c := range []struct {
		b    []byte
		want api.Errno
		told string
	}{
		{nil, api.ErrShort, "0 bytes are no packet: they are fewer than any head"},
		{good[:19], api.ErrShort, "19 bytes are no packet: they are fewer than any head"},
		{other, api.ErrForm, "38 bytes are no packet: they are of another version"},
		{small, api.ErrForm, "38 bytes are no packet: the head that they tell is too short"},
		{good[:27], api.ErrShort, "27 bytes are no packet: they are fewer than the head"},
		{wrong, api.ErrSum, "38 bytes are no packet: the head's checksum is wrong"},
		{told(good, 27), api.ErrForm, "38 bytes are no packet: they tell that they are fewer than the head"},
		{told(good, 39), api.ErrShort, "38 bytes are no packet: they tell that they are more"},
	} {
		p, err := packet(c.b)
		var r refusal
		if !errors.As(err, &r) || r.number != c.want || r.size != len(c.b) || err.Error() != c.told || !samePacket(p, api.Ip{}) {
			t.Errorf("packet(% x) = %+v, %v", c.b, p, err)
		}
		// Wrapped it is found, too.
		if number(errors.Join(errors.New("more"), err)) != c.want {
			t.Errorf("%v is not found", err)
		}
	}
	if _, err := packet(good); err != nil || number(nil) != api.OK || !sum.Right(good[:28]) {
		t.Error(err)
	}
}
