package udp

import (
	"bytes"
	"errors"
	"math"
	"slices"
	"testing"

	"drawbridge/api"
)

// gets tells of a Get that is not as the chapter has it.
func gets(t *testing.T, b []byte, src uint32, dst uint32) {
	t.Helper()
	got, e := Get(b, src, dst)
	if want, number := getOf(b, src, dst); e != number || !same(got, want) {
		t.Fatalf("Get(% x, %#x, %#x) = %+v, %d, not %+v, %d", b, src, dst, got, e, want, number)
	}
}

// answersGet tells of a Get that does not answer a number; all but OK come without a datagram.
func answersGet(t *testing.T, b []byte, want api.Errno) {
	t.Helper()
	got, e := Get(b, guest, names)
	if e != want || e != api.OK && !same(got, api.Udp{}) {
		t.Fatalf("Get(% x) = %+v, %d, not %d", b, got, e, want)
	}
	gets(t, b, guest, names)
}

// written answers the bytes of plain.
func written(data int) []byte { return sent{plain(data), guest, names}.bytes() }

// told answers b with another length told; if that may be, with a checksum that is right of so many bytes.
func told(b []byte, size int) []byte {
	c := bytes.Clone(b)
	copy(c[4:], digits(size, 2))
	if size < 8 || size > len(c) {
		return c
	}
	return slices.Concat(summed(c[:size], guest, names), c[size:])
}

// without answers b with a checksum of 0.
func without(b []byte) []byte {
	c := bytes.Clone(b)
	c[6], c[7] = 0, 0
	return c
}

// P18.2: Get of each number of bytes.
func TestGetSizes(t *testing.T) {
	for _, b := range [][]byte{nil, {}} {
		answersGet(t, b, api.ErrShort)
	}
	for _, data := range []int{0, 1, 2, 3, 30} {
		b := slices.Concat(written(data), run(0, 40))
		for n := range b {
			want := api.OK
			if n < 8+data {
				want = api.ErrShort
			}
			answersGet(t, b[:n], want)
			if n >= 8 {
				answersGet(t, without(b[:n]), want)
			}
		}
	}
}

// P18.2: of less than 8 bytes, whatever they are.
func TestGetFewBytes(t *testing.T) {
	for n := range 8 {
		for _, x := range []byte{0, 1, 7, 8, 255} {
			answersGet(t, bytes.Repeat([]byte{x}, n), api.ErrShort)
		}
	}
}

// P18.2: each length that may be told, of few bytes and of many: below 8, fewer, just all, more.
func TestGetTold(t *testing.T) {
	for _, data := range []int{0, 1, 2, 9, 20} {
		b := written(data)
		for size := range 65536 {
			want := api.OK
			switch {
			case size < 8:
				want = api.ErrForm
			case size > len(b):
				want = api.ErrShort
			}
			answersGet(t, told(b, size), want)
			answersGet(t, without(told(b, size)), want)
			if got, _ := Get(told(b, size), guest, names); want == api.OK && !same(got, api.Udp{Src: 0x1122, Dst: 0x3344, Data: run(0xc1, size-8)}) {
				t.Fatalf("Get(% x) = %+v", told(b, size), got)
			}
		}
	}
	for _, c := range []struct {
		size int
		want api.Errno
	}{{0, api.ErrForm}, {7, api.ErrForm}, {8, api.OK}, {9, api.OK}, {256, api.OK}, {1007, api.OK}, {1008, api.OK}, {1009, api.ErrShort}, {65535, api.ErrShort}} {
		answersGet(t, told(written(1000), c.size), c.want)
	}
}

// P18.2: the most that can be told, with so many bytes, one fewer and one more.
func TestGetGreatest(t *testing.T) {
	for _, data := range []int{65506, 65507, 65526, 65527, 65528, 70000} {
		b := slices.Concat(without(written(0)), make([]byte, data))
		for size := 65510; size <= 65535; size++ {
			want := api.OK
			if size > 8+data {
				want = api.ErrShort
			}
			got, e := Get(told(b, size), guest, names)
			if e != want || e == api.OK && len(got.Data) != size-8 || e != api.OK && !same(got, api.Udp{}) {
				t.Errorf("Get of %d bytes, %d told: %d bytes, %d", len(b), size, len(got.Data), e)
			}
		}
	}
}

// P18.2: what is behind is not looked at.
func TestGetBehind(t *testing.T) {
	for _, data := range []int{0, 1, 2, 8, 247, 248, 65507} {
		for _, behind := range [][]byte{{0}, {255}, {1, 2}, run(3, 27), make([]byte, 70000)} {
			b := slices.Concat(written(data), behind)
			if got, e := Get(b, guest, names); e != api.OK || !same(got, plain(data)) {
				t.Fatalf("Get of %d bytes, %d behind: %+v, %d", data, len(behind), got, e)
			}
		}
	}
}

// P18.2: a checksum of 0 is right, whatever the bytes are, and whoever sends them; one of 0x0001 or 0x0100 is asked.
func TestGetNoChecksum(t *testing.T) {
	next := chance()
	for n := range 200 {
		b := text(8+n, next)
		copy(b[4:], []byte{0, byte(8 + n), 0, 0})
		for _, src := range []uint32{0, guest, math.MaxUint32, uint32(next())} {
			u := api.Udp{Src: int(b[0])*256 + int(b[1]), Dst: int(b[2])*256 + int(b[3]), Data: b[8:]}
			if got, e := Get(b, src, uint32(next())); e != api.OK || !same(got, u) {
				t.Fatalf("Get(% x) = %+v, %d", b, got, e)
			}
		}
	}
	for _, b := range [][]byte{{0, 0, 0, 0, 0, 8, 0, 1}, {0, 0, 0, 0, 0, 8, 1, 0}} {
		answersGet(t, b, api.ErrSum)
	}
	answersGet(t, []byte{0, 0, 0, 0, 0, 8, 0, 0}, api.OK)
}

// P18.2: a checksum of 65535 counts as the 0 for which it is written, and is wrong of other bytes.
func TestGetAllOnes(t *testing.T) {
	for x := range 65536 {
		b := slices.Concat([]byte{1, 2, 3, 4, 0, 10, 255, 255}, digits(x, 2))
		want := api.ErrSum
		if wholeOf(without(b), guest, names) == 0 {
			want = api.OK
		}
		answersGet(t, b, want)
	}
	b := summed([]byte{0, 0, 0, 0, 0, 10, 0, 0, 0, 0}, guest, names)
	b[8], b[9] = b[6], b[7]
	b = summed(b, guest, names)
	if b[6] != 255 || b[7] != 255 {
		t.Fatalf("% x", b)
	}
	answersGet(t, b, api.OK)
}

// P18.2: each checksum that can be told: the right one, and 0, which asks nothing.
func TestGetEachChecksum(t *testing.T) {
	for _, data := range []int{0, 1, 2} {
		good := written(data)
		right := 0
		for x := range 65536 {
			b := bytes.Clone(good)
			copy(b[6:], digits(x, 2))
			want := api.ErrSum
			if x == 0 || bytes.Equal(b, good) {
				want = api.OK
				right++
			}
			answersGet(t, b, want)
		}
		if right != 2 {
			t.Errorf("%d checksums are right", right)
		}
	}
}

// P18.2: each byte of a datagram another: its checksum is wrong; made right again, all is well.
func TestGetOtherBytes(t *testing.T) {
	for _, data := range []int{0, 1, 2, 11, 12} {
		good := slices.Concat(written(data), []byte{1, 2})
		for at := range 8 + data {
			for turn := 1; turn < 256; turn++ {
				b := bytes.Clone(good)
				b[at] ^= byte(turn)
				gets(t, b, guest, names)
				if at == 4 || at == 5 {
					continue
				}
				answersGet(t, b, api.ErrSum)
				b = slices.Concat(summed(b[:8+data], guest, names), b[8+data:])
				answersGet(t, b, api.OK)
			}
		}
	}
}

// P18.2: which bytes are which part: each of them alone is another.
func TestGetParts(t *testing.T) {
	for at := range 16 {
		for _, x := range []int{1, 0x12, 0x80, 0xff} {
			b := make([]byte, 16)
			b[5] = 16
			want := api.Udp{Data: make([]byte, 8)}
			switch at {
			case 0:
				want.Src = 256 * x
			case 1:
				want.Src = x
			case 2:
				want.Dst = 256 * x
			case 3:
				want.Dst = x
			case 4, 5, 6, 7:
				continue
			default:
				want.Data[at-8] = byte(x)
			}
			b[at] = byte(x)
			for _, c := range [][]byte{b, summed(b, guest, names)} {
				if got, e := Get(c, guest, names); e != api.OK || !same(got, want) {
					t.Errorf("Get(% x) = %+v, %d", c, got, e)
				}
			}
		}
	}
	for x := range 65536 {
		b := slices.Concat(digits(x, 2), digits(65535-x, 2), []byte{0, 8, 0, 0})
		if got, e := Get(b, guest, names); e != api.OK || got.Src != x || got.Dst != 65535-x || len(got.Data) != 0 {
			t.Fatalf("Get(% x) = %+v, %d", b, got, e)
		}
	}
}

// P18.2: another src, another dst: the checksum is wrong. Turned round they add up to the same.
func TestGetOtherAddress(t *testing.T) {
	for _, data := range []int{0, 1, 2, 40} {
		b := written(data)
		for bit := range 32 {
			for _, c := range [][2]uint32{{guest ^ 1<<bit, names}, {guest, names ^ 1<<bit}} {
				if got, e := Get(b, c[0], c[1]); e != api.ErrSum || !same(got, api.Udp{}) {
					t.Errorf("Get(% x, %#x, %#x) = %+v, %d", b, c[0], c[1], got, e)
				}
				if got, e := Get(without(b), c[0], c[1]); e != api.OK || !same(got, plain(data)) {
					t.Errorf("Get(% x, %#x, %#x) = %+v, %d", without(b), c[0], c[1], got, e)
				}
			}
		}
		if got, e := Get(b, names, guest); e != api.OK || !same(got, plain(data)) {
			t.Errorf("Get(% x), turned round: %+v, %d", b, got, e)
		}
		// The halves of an address add up to the same, too, whichever stands ahead.
		asker := uint32(guest)
		if got, e := Get(b, asker<<16|asker>>16, names); e != api.OK || !same(got, plain(data)) {
			t.Errorf("Get(% x), its halves turned round: %+v, %d", b, got, e)
		}
	}
}

// P18.2: how many bytes are told counts in Pseudo, not how many there are, nor how many Data are, and the protocol is 17.
func TestGetPseudo(t *testing.T) {
	bare := without(written(4))
	for proto := range 256 {
		for n := range 40 {
			b := bytes.Clone(bare)
			head := slices.Concat(digits(guest, 4), digits(names, 4), []byte{0, byte(proto)}, digits(n, 2))
			copy(b[6:], digits(sumOf(append(head, b...)), 2))
			want := api.ErrSum
			// Protocol and length are added: what one has more, the other may have less.
			if proto+n == 17+12 {
				want = api.OK
			}
			answersGet(t, b, want)
			answersGet(t, append(b, 0, 0), want)
		}
	}
}

// P18.2: of two reasons the first in order is told.
func TestGetFirstReason(t *testing.T) {
	wrongSum := func(b []byte) []byte {
		c := bytes.Clone(b)
		c[7] ^= 0x10
		return c
	}
	tells := func(b []byte, size int) []byte {
		c := bytes.Clone(b)
		copy(c[4:], digits(size, 2))
		return c
	}
	good := written(10)
	for _, c := range []struct {
		name string
		b    []byte
		want api.Errno
	}{
		{"too few, and a length below 8", tells(good, 7)[:7], api.ErrShort},
		{"too few, and a length of more", tells(good, 9)[:7], api.ErrShort},
		{"too few, and a length of so many", tells(good, 7)[:7], api.ErrShort},
		{"a length below 8, and a wrong checksum", wrongSum(tells(good, 7)), api.ErrForm},
		{"a length of 0, and a wrong checksum", wrongSum(tells(good, 0)), api.ErrForm},
		{"a length below 8, and no checksum", without(tells(good, 7)), api.ErrForm},
		{"a length below 8 of 8 bytes", tells(good, 7)[:8], api.ErrForm},
		{"a length of more, and a wrong checksum", wrongSum(tells(good, 19)), api.ErrShort},
		{"a length of more, and no checksum", without(tells(good, 19)), api.ErrShort},
		{"a length of fewer, and a wrong checksum", wrongSum(told(good, 17)), api.ErrSum},
		{"a length of fewer, and the checksum of all", tells(good, 17), api.ErrSum},
		{"a wrong checksum", wrongSum(good), api.ErrSum},
		{"nothing wrong", good, api.OK},
	} {
		if got, e := Get(c.b, guest, names); e != c.want || e != api.OK && !same(got, api.Udp{}) {
			t.Errorf("%s: %+v, %d, not %d", c.name, got, e, c.want)
		}
	}
}

// P18.3: Get of Put is the datagram, for the smallest and the greatest of everything, with bytes behind it, too; Put of Get are its bytes.
func TestGetOfPut(t *testing.T) {
	for i, s := range datagrams() {
		b, e := Put(s.u, s.src, s.dst)
		if e != api.OK {
			t.Fatalf("Put(%+v): %d", s, e)
		}
		for _, behind := range [][]byte{nil, {0}, {255}, run(i, 1+i%30)} {
			got, e := Get(slices.Concat(b, behind), s.src, s.dst)
			if e != api.OK || !same(got, s.u) {
				t.Fatalf("Get(Put(%+v)) = %+v, %d", s, got, e)
			}
			if again, e := Put(got, s.src, s.dst); e != api.OK || !bytes.Equal(again, b) {
				t.Fatalf("Put(Get(% x)) = % x, %d", b, again, e)
			}
		}
	}
}

// P18.3: with another address it is mostly wrong: just where both add up to the same it is right.
func TestGetOfPutElsewhere(t *testing.T) {
	next := chance()
	wrong := 0
	for range 20000 {
		s := byChance(next()%20, next)
		b, _ := Put(s.u, s.src, s.dst)
		for _, c := range [][2]uint32{{uint32(next()), s.dst}, {s.src, uint32(next())}, {uint32(next()), uint32(next())}} {
			gets(t, b, c[0], c[1])
			if _, e := Get(b, c[0], c[1]); e == api.ErrSum {
				wrong++
			}
		}
	}
	if wrong < 59900 {
		t.Errorf("%d of 60000 are wrong", wrong)
	}
}

// P18.2: why bytes are no datagram is a refusal, which errors.As finds, and which tells its words.
func TestWhyNoDatagram(t *testing.T) {
	good := written(10)
	wrong := bytes.Clone(good)
	wrong[17]++
	for _, c := range []struct {
		b    []byte
		want api.Errno
		told string
	}{
		{nil, api.ErrShort, "0 bytes are no datagram: they are fewer than a head"},
		{good[:7], api.ErrShort, "7 bytes are no datagram: they are fewer than a head"},
		{told(good, 7), api.ErrForm, "18 bytes are no datagram: they tell that they are fewer than a head"},
		{told(good, 19), api.ErrShort, "18 bytes are no datagram: they tell that they are more"},
		{wrong, api.ErrSum, "18 bytes are no datagram: their checksum is wrong"},
		{append(wrong, 0), api.ErrSum, "19 bytes are no datagram: their checksum is wrong"},
	} {
		u, err := datagram(c.b, guest, names)
		var r refusal
		if !errors.As(err, &r) || r.number != c.want || r.size != len(c.b) || err.Error() != c.told || !same(u, api.Udp{}) {
			t.Errorf("datagram(% x) = %+v, %v", c.b, u, err)
		}
		// Wrapped it is found, too.
		if number(errors.Join(errors.New("more"), err)) != c.want {
			t.Errorf("%v is not found", err)
		}
	}
	if _, err := datagram(good, guest, names); err != nil || number(nil) != api.OK {
		t.Error(err)
	}
}
