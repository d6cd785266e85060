package seg

import (
	"bytes"
	"math"
	"slices"
	"testing"

	"drawbridge/api"
)

// gets tells of a Get that is not as the chapter has it.
func gets(t *testing.T, b []byte, src uint32, dst uint32) {
	t.Helper()
	got, e := Get(b, src, dst)
	if want, number := getOf(b, src, dst); e != number || !same(got, want) {
		t.Fatalf("Get(% x, %#x, %#x) = %+v, %d, not %+v, %d", b, src, dst, got, e, want, number)
	}
}

// answersGet tells of a Get that does not answer a number; all but OK come without a segment.
func answersGet(t *testing.T, b []byte, want api.Errno) {
	t.Helper()
	got, e := Get(b, guest, remote)
	if e != want || e != api.OK && !same(got, api.Seg{}) {
		t.Fatalf("Get(% x) = %+v, %d, not %d", b, got, e, want)
	}
	gets(t, b, guest, remote)
}

// written answers the bytes of plain.
func written(data int) []byte { return sent{plain(data), guest, remote}.bytes() }

// righted answers b with a checksum that is right, of what is sent from guest to remote.
func righted(b []byte) []byte { return summed(b, guest, remote) }

// wrongSum answers b with a checksum that is wrong.
func wrongSum(b []byte) []byte {
	c := righted(b)
	c[17] ^= 0x10
	return c
}

// words answers b with a head of so many words told; its checksum is right.
func words(b []byte, many int) []byte {
	c := bytes.Clone(b)
	c[12] = byte(16*many) | c[12]%16
	return righted(c)
}

// optioned answers a segment's bytes with these options, filled up by bytes of fill, and so many bytes of Data.
func optioned(options []byte, fill byte, data int) []byte {
	o := bytes.Clone(options)
	for len(o)%4 != 0 {
		o = append(o, fill)
	}
	return words(slices.Concat(written(0), o, run(0x41, data)), 5+len(o)/4)
}

// P19.2: Get of each number of bytes.
func TestGetSizes(t *testing.T) {
	for _, b := range [][]byte{nil, {}} {
		answersGet(t, b, api.ErrShort)
	}
	for _, mss := range []int{0, 1460} {
		b := slices.Concat(sent{withMss(plain(30), mss), guest, remote}.bytes(), run(0, 40))
		head := 20
		if mss != 0 {
			head = 24
		}
		for n := range len(b) {
			if n < head {
				answersGet(t, b[:n], api.ErrShort)
				continue
			}
			c := righted(b[:n])
			answersGet(t, c, api.OK)
			answersGet(t, wrongSum(c), api.ErrSum)
			if got, _ := Get(c, guest, remote); !bytes.Equal(got.Data, b[head:n]) {
				t.Errorf("Get of %d bytes: %x", n, got.Data)
			}
		}
		answersGet(t, b, api.ErrSum)
		answersGet(t, b[:head+29], api.ErrSum)
	}
}

// P19.2: of less than 20 bytes, whatever they are.
func TestGetFewBytes(t *testing.T) {
	for n := range 20 {
		for _, x := range []byte{0, 1, 0x40, 0x50, 0x60, 255} {
			answersGet(t, bytes.Repeat([]byte{x}, n), api.ErrShort)
		}
		answersGet(t, written(0)[:n], api.ErrShort)
	}
	answersGet(t, written(0), api.OK)
	answersGet(t, written(1), api.OK)
}

// P19.2: about the most bytes that there may be: one more is refused, whatever it is.
func TestGetGreatest(t *testing.T) {
	for _, n := range []int{60020, 60021, 65533, 65534, 65535, 65536, 65537, 65538, 65536 + 20, 70000, 1 << 17, 1 << 20} {
		b := slices.Concat(written(0), run(7, n-20))
		want, other := api.OK, api.ErrSum
		if n > 65535 {
			want, other = api.ErrForm, api.ErrForm
		}
		for _, c := range []struct {
			b    []byte
			want api.Errno
		}{{righted(b), want}, {wrongSum(b), other}, {words(b, 4), api.ErrForm}} {
			got, e := Get(c.b, guest, remote)
			if e != c.want || e == api.OK && !bytes.Equal(got.Data, b[20:]) || e != api.OK && !same(got, api.Seg{}) {
				t.Errorf("Get of %d bytes: %d, %d", n, len(got.Data), e)
			}
			gets(t, c.b, guest, remote)
		}
	}
}

// P19.2: a head that is told of 0 to 15 times four bytes, with fewer bytes, just so many, and more; the lower half of its byte says nothing.
func TestGetHeads(t *testing.T) {
	for many := range 16 {
		for n := 20; n < 70; n++ {
			for low := range 16 {
				b := slices.Concat(written(0), bytes.Repeat([]byte{1}, n-20))
				b[12] = byte(low)
				b = words(b, many)
				want, broken := api.OK, api.ErrSum
				switch {
				case many < 5:
					want, broken = api.ErrForm, api.ErrForm
				case 4*many > n:
					want, broken = api.ErrShort, api.ErrShort
				}
				answersGet(t, b, want)
				answersGet(t, wrongSum(b), broken)
				if got, _ := Get(b, guest, remote); want == api.OK && (len(got.Data) != n-4*many || got.Mss != 0) {
					t.Errorf("Get of %d bytes, %d words: %+v", n, many, got)
				}
			}
		}
	}
}

// P19.2: each byte of a segment another: its checksum is wrong; made right again, it is another segment.
func TestGetOtherBytes(t *testing.T) {
	for _, s := range []api.Seg{plain(0), plain(1), plain(2), plain(11), withMss(plain(0), 1460), withMss(plain(1), 1460), withMss(plain(12), 1460)} {
		good := sent{s, guest, remote}.bytes()
		for at := range good {
			for turn := 1; turn < 256; turn++ {
				b := bytes.Clone(good)
				b[at] ^= byte(turn)
				gets(t, b, guest, remote)
				gets(t, righted(b), guest, remote)
				if at == 12 && turn >= 16 {
					continue
				}
				answersGet(t, b, api.ErrSum)
				if at < 20 || at >= 24 || s.Mss == 0 {
					answersGet(t, righted(b), api.OK)
				}
			}
		}
	}
}

// P19.2: each checksum that can be told: just one is right.
func TestGetEachChecksum(t *testing.T) {
	for _, data := range []int{0, 1, 2} {
		good := written(data)
		for x := range 65536 {
			b := bytes.Clone(good)
			copy(b[16:], digits(x, 2))
			want := api.ErrSum
			if bytes.Equal(b, good) {
				want = api.OK
			}
			answersGet(t, b, want)
		}
	}
}

// P19.2: a checksum of 0 is asked as all others are; of what comes out 0, 65535 counts as 0 does.
func TestGetNought(t *testing.T) {
	b := written(2)
	b[16], b[17] = 0, 0
	answersGet(t, b, api.ErrSum)
	good := []byte{0, 0, 0, 0, 0, 0, 0, 0, 0, 0, 0, 0, 0x50, 0, 0, 0, 0, 0, 0, 0, 0xaf, 0xe3}
	for _, x := range []byte{0, 255} {
		good[16], good[17] = x, x
		if got, e := Get(good, 0, 0); e != api.OK || !same(got, api.Seg{Data: []byte{0xaf, 0xe3}}) {
			t.Errorf("Get(% x) = %+v, %d", good, got, e)
		}
	}
}

// P19.2: which bytes are which part: each of them alone is another. The bytes 18 and 19, and the lower half of byte 12, say nothing.
func TestGetParts(t *testing.T) {
	for at := range 28 {
		for _, x := range []byte{1, 0x12, 0x80, 0xff} {
			b := slices.Concat(make([]byte, 20), []byte{2, 4, 0, 0, 0, 0, 0, 0})
			b[12] = 0x60
			want := api.Seg{Data: make([]byte, 4)}
			switch {
			case at < 2:
				want.Src = int(x) << (8 - 8*at)
			case at < 4:
				want.Dst = int(x) << (24 - 8*at)
			case at < 8:
				want.Seq = uint32(x) << (56 - 8*at)
			case at < 12:
				want.Ack = uint32(x) << (88 - 8*at)
			case at == 12:
				x %= 16
			case at == 13:
				want.Flags = int(x) % 64
			case at < 16:
				want.Win = int(x) << (120 - 8*at)
			case at < 20:
			case at < 22:
				continue
			case at < 24:
				want.Mss = int(x) << (184 - 8*at)
			default:
				want.Data[at-24] = x
			}
			b[at] |= x
			if got, e := Get(righted(b), guest, remote); e != api.OK || !same(got, want) {
				t.Errorf("Get(% x) = %+v, %d, not %+v", righted(b), got, e, want)
			}
		}
	}
}

// P19.2: Flags are the lowest six bits of their byte, whatever stands above them.
func TestGetFlags(t *testing.T) {
	for x := range 256 {
		b := written(1)
		b[13] = byte(x)
		got, e := Get(righted(b), guest, remote)
		if e != api.OK || got.Flags != x%64 {
			t.Errorf("Get with the byte %#x: Flags %d, %d", x, got.Flags, e)
		}
	}
	for flag, x := range map[int]byte{api.Fin: 1, api.Syn: 2, api.Rst: 4, api.Psh: 8, api.Ack: 16, api.Urg: 32} {
		b := written(1)
		b[13] = x
		if got, _ := Get(righted(b), guest, remote); got.Flags != flag {
			t.Errorf("Get with the byte %#x: Flags %d", x, got.Flags)
		}
	}
}

// P19.2: Data are all that stands behind the head.
func TestGetData(t *testing.T) {
	for many := 5; many < 16; many++ {
		for _, data := range []int{0, 1, 2, 3, 4, 5, 100, 1460} {
			b := words(slices.Concat(written(0), make([]byte, 4*many-20), run(data, data)), many)
			if got, e := Get(b, guest, remote); e != api.OK || !bytes.Equal(got.Data, run(data, data)) {
				t.Errorf("Get of %d words and %d bytes: %+v, %d", many, data, got, e)
			}
		}
	}
}

// P19.2: another src, another dst: the checksum is wrong. Turned round they add up to the same.
func TestGetOtherAddress(t *testing.T) {
	for _, s := range []api.Seg{plain(0), plain(1), plain(2), withMss(plain(40), 1460)} {
		b := sent{s, guest, remote}.bytes()
		for bit := range 32 {
			for _, c := range [][2]uint32{{guest ^ 1<<bit, remote}, {guest, remote ^ 1<<bit}} {
				if got, e := Get(b, c[0], c[1]); e != api.ErrSum || !same(got, api.Seg{}) {
					t.Errorf("Get(% x, %#x, %#x) = %+v, %d", b, c[0], c[1], got, e)
				}
			}
		}
		if got, e := Get(b, remote, guest); e != api.OK || !same(got, s) {
			t.Errorf("Get(% x), turned round: %+v, %d", b, got, e)
		}
	}
	next := chance()
	for range 20000 {
		s := byChance(next()%20, next)
		gets(t, s.bytes(), uint32(next()), s.dst)
		gets(t, s.bytes(), s.src, uint32(next()))
	}
}

// P19.2: how many bytes there are in all counts in Pseudo, not how many Data are, and the protocol is 6.
func TestGetPseudo(t *testing.T) {
	bare := written(4)
	copy(bare[16:], []byte{0, 0})
	for proto := range 256 {
		for n := range 50 {
			b := bytes.Clone(bare)
			head := slices.Concat(digits(guest, 4), digits(remote, 4), []byte{0, byte(proto)}, digits(n, 2))
			copy(b[16:], digits(sumOf(append(head, b...)), 2))
			want := api.ErrSum
			// Protocol and length are added: what one has more, the other may have less.
			if proto+n == 6+24 {
				want = api.OK
			}
			answersGet(t, b, want)
		}
	}
}

// P19.2: of two reasons the first in order is told.
func TestGetFirstReason(t *testing.T) {
	broken := []byte{2, 9, 0, 0}
	good := slices.Concat(written(0), broken, run(1, 9))
	long := slices.Concat(good, make([]byte, 65536))
	for _, c := range []struct {
		name string
		b    []byte
		want api.Errno
	}{
		{"too few, and a head below 20", words(good, 4)[:19], api.ErrShort},
		{"too few, and a head of more", words(good, 6)[:19], api.ErrShort},
		{"too many, and a head below 20", words(long, 0), api.ErrForm},
		{"too many, and a wrong checksum", wrongSum(long), api.ErrForm},
		{"too many, and broken options", words(long, 6), api.ErrForm},
		{"a head below 20, and a wrong checksum", wrongSum(words(good, 4)), api.ErrForm},
		{"a head of 0, and a wrong checksum", wrongSum(words(good, 0)), api.ErrForm},
		{"a head of more, and a wrong checksum", wrongSum(words(good, 9)), api.ErrShort},
		{"a head of more, and broken options", words(good, 9), api.ErrShort},
		{"a wrong checksum, and broken options", wrongSum(words(good, 6)), api.ErrSum},
		{"broken options", words(good, 6), api.ErrForm},
		{"no options", words(good, 5), api.OK},
	} {
		if got, e := Get(c.b, guest, remote); e != c.want || e != api.OK && !same(got, api.Seg{}) {
			t.Errorf("%s: %+v, %d, not %d", c.name, got, e, c.want)
		}
		gets(t, c.b, guest, remote)
	}
}

// none is the Mss of options that are none.
const none = -1

// P19.2: options, told one by one: which Mss they have, or that they are none. They fill their head.
func TestGetOptions(t *testing.T) {
	for _, c := range []struct {
		options []byte
		want    int
	}{
		{[]byte{2, 4, 5, 0xb4}, 1460},
		{[]byte{2, 4, 255, 255}, 65535},
		{[]byte{2, 4, 0, 1}, 1},
		{[]byte{2, 4, 1, 0}, 256},
		{[]byte{2, 4, 0, 0}, 0},
		// A byte 0 with anything behind it.
		{[]byte{0, 0, 0, 0}, 0},
		{[]byte{0, 2, 4, 9, 9, 0, 0, 0}, 0},
		{[]byte{0, 9, 99, 1}, 0},
		{[]byte{0, 3, 0, 0}, 0},
		{[]byte{1, 1, 1, 0}, 0},
		{[]byte{1, 0, 255, 255}, 0},
		{[]byte{2, 4, 0, 7, 0, 77, 1, 255}, 7},
		{[]byte{0, 0, 0, 0, 2, 4, 0, 7}, 0},
		{[]byte{1, 1, 1, 0, 2, 4, 0, 7}, 0},
		// Bytes 1.
		{[]byte{1, 1, 1, 1}, 0},
		{[]byte{1, 1, 1, 1, 2, 4, 0, 7}, 7},
		{[]byte{1, 2, 4, 0, 7, 1, 1, 1}, 7},
		{[]byte{1, 1, 1, 2, 4, 0, 7, 0}, 7},
		// An option of no, one, two bytes.
		{[]byte{3, 0, 1, 1}, none},
		{[]byte{3, 1, 1, 1}, none},
		{[]byte{2, 0, 0, 0}, none},
		{[]byte{2, 1, 0, 0}, none},
		{[]byte{3, 2, 1, 1}, 0},
		{[]byte{2, 2, 1, 1}, 0},
		{[]byte{4, 2, 4, 2}, 0},
		{[]byte{2, 2, 2, 2}, 0},
		{[]byte{255, 2, 0, 9}, 0},
		// One of all that there are in the head, and of one more.
		{[]byte{8, 4, 9, 9}, 0},
		{[]byte{8, 5, 9, 9}, none},
		{[]byte{8, 8, 9, 9, 9, 9, 9, 9}, 0},
		{[]byte{8, 9, 9, 9, 9, 9, 9, 9}, none},
		{[]byte{1, 8, 3, 9}, 0},
		{[]byte{1, 8, 4, 9}, none},
		{[]byte{1, 1, 8, 2}, 0},
		{[]byte{1, 1, 8, 3}, none},
		{[]byte{8, 255, 9, 9}, none},
		{[]byte{1, 2, 4, 7}, none},
		// One whose second byte is missing.
		{[]byte{1, 1, 1, 8}, none},
		{[]byte{1, 1, 1, 2}, none},
		{[]byte{2, 4, 0, 7, 8, 3, 0, 255}, none},
		// An option 2 of three, four, five bytes, and of others.
		{[]byte{2, 3, 9, 1}, 0},
		{[]byte{2, 3, 9, 0}, 0},
		{[]byte{2, 5, 9, 9, 9, 1, 1, 1}, 0},
		{[]byte{2, 6, 9, 9, 9, 9, 1, 1}, 0},
		{[]byte{2, 8, 2, 4, 0, 7, 0, 0}, 0},
		{[]byte{2, 3, 9, 2, 4, 0, 7, 1}, 7},
		{[]byte{2, 5, 9, 9, 9, 2, 4, 0, 7, 1, 1, 1}, 7},
		{[]byte{2, 4, 0, 7, 2, 3, 9, 1}, 7},
		// Two of them.
		{[]byte{2, 4, 0, 7, 2, 4, 0, 8}, 7},
		{[]byte{2, 4, 0, 8, 2, 4, 0, 7}, 8},
		{[]byte{2, 4, 0, 0, 2, 4, 0, 7}, 0},
		{[]byte{2, 4, 0, 0, 1, 1, 1, 1, 2, 4, 0, 7}, 0},
		{[]byte{2, 4, 0, 7, 2, 4, 0, 0}, 7},
		// One behind another option.
		{[]byte{8, 4, 9, 9, 2, 4, 0, 7}, 7},
		{[]byte{4, 2, 2, 4, 0, 7, 1, 1}, 7},
		{[]byte{8, 8, 2, 4, 0, 9, 9, 9, 2, 4, 0, 7}, 7},
		{[]byte{3, 3, 7, 1, 2, 4, 0, 7}, 7},
		// One within another option is none.
		{[]byte{8, 6, 2, 4, 0, 7, 1, 1}, 0},
		// Another option of four bytes is no Mss.
		{[]byte{3, 4, 0, 7}, 0},
		{[]byte{4, 4, 0, 7}, 0},
		{[]byte{130, 4, 0, 7}, 0},
		// Broken options behind an Mss are told as none, behind a byte 0 not.
		{[]byte{2, 4, 0, 7, 3, 0, 0, 0}, none},
		{[]byte{2, 4, 0, 7, 3, 1, 0, 0}, none},
		{[]byte{2, 4, 0, 7, 3, 5, 0, 0}, none},
		{[]byte{2, 4, 0, 7, 1, 1, 1, 3}, none},
		{[]byte{2, 4, 0, 7, 0, 3, 0, 0}, 7},
	} {
		for _, data := range []int{0, 1, 4, 300} {
			b := optioned(c.options, 1, data)
			want := withMss(plain(0), c.want)
			want.Data = run(0x41, data)
			if c.want == none {
				answersGet(t, b, api.ErrForm)
				continue
			}
			if got, e := Get(b, guest, remote); e != api.OK || !same(got, want) {
				t.Errorf("Get with the options % x: %+v, %d, not %+v", c.options, got, e, want)
			}
			gets(t, b, guest, remote)
		}
	}
}

// P19.2: options do not reach into Data: what is there would make them whole.
func TestGetOptionsEnd(t *testing.T) {
	for _, c := range []struct {
		options, data []byte
	}{
		{[]byte{1, 1, 1, 2}, []byte{4, 0, 7}},
		{[]byte{1, 1, 2, 4}, []byte{0, 7}},
		{[]byte{1, 2, 4, 0}, []byte{7}},
		{[]byte{8, 5, 9, 9}, []byte{9}},
		{[]byte{1, 1, 1, 8}, []byte{2, 2, 4, 0, 7}},
	} {
		answersGet(t, righted(append(optioned(c.options, 1, 0), c.data...)), api.ErrForm)
	}
	// An Mss in Data is none.
	b := righted(slices.Concat(optioned([]byte{1, 1, 1, 1}, 1, 0), []byte{2, 4, 0, 7}))
	if got, e := Get(b, guest, remote); e != api.OK || got.Mss != 0 || len(got.Data) != 4 {
		t.Errorf("Get(% x) = %+v, %d", b, got, e)
	}
}

// P19.2: one option of each size at each place of a head of each size.
func TestGetOptionSizes(t *testing.T) {
	for many := 6; many < 16; many++ {
		room := 4*many - 20
		for at := range room {
			for size := range 48 {
				o := bytes.Repeat([]byte{1}, room)
				o[at] = 77
				want := api.ErrForm
				if at+1 < room {
					o[at+1] = byte(size)
					if size >= 2 && at+size <= room {
						want = api.OK
					}
				}
				answersGet(t, optioned(o, 1, 50), want)
			}
		}
	}
}

// P19.2: an Mss at each place of a head of each size.
func TestGetMssPlaces(t *testing.T) {
	for many := 6; many < 16; many++ {
		room := 4*many - 20
		for at := range room - 3 {
			o := bytes.Repeat([]byte{1}, room)
			copy(o[at:], []byte{2, 4, byte(many), byte(at)})
			if got, e := Get(optioned(o, 1, at), guest, remote); e != api.OK || got.Mss != 256*many+at {
				t.Errorf("Get of %d words, the Mss at %d: %+v, %d", many, at, got, e)
			}
		}
	}
}

// each calls do with all texts of n bytes of an alphabet.
func each(n int, alphabet []byte, do func(b []byte)) {
	if n == 0 {
		do(nil)
		return
	}
	each(n-1, alphabet, func(b []byte) {
		for _, x := range alphabet {
			do(append(bytes.Clone(b), x))
		}
	})
}

// P19.2: all options of some bytes, in a head with room for four of them and for eight.
func TestGetAllOptions(t *testing.T) {
	each(4, []byte{0, 1, 2, 3, 4, 5, 8, 128, 254, 255}, func(b []byte) {
		gets(t, optioned(b, 0, 5), guest, remote)
	})
	each(8, []byte{0, 1, 2, 4}, func(b []byte) {
		gets(t, optioned(b, 0, 1), guest, remote)
	})
	each(5, []byte{0, 1, 2, 3, 4, 5}, func(b []byte) {
		gets(t, optioned(slices.Concat([]byte{2, 4, 9}, b), 0, 1), guest, remote)
		gets(t, optioned(slices.Concat([]byte{1, 2, 4}, b), 0, 0), guest, remote)
	})
}

// P19.4: Get of Put is the segment, for the smallest and the greatest of everything; Put of Get are its bytes.
func TestGetOfPut(t *testing.T) {
	list := append(segments(), sent{api.Seg{}, math.MaxUint32, 0}, sent{greatest(60000), 0, 0})
	for _, s := range list {
		b, e := Put(s.s, s.src, s.dst)
		if e != api.OK {
			t.Fatalf("Put(%v, %d bytes): %d", bare(s.s), len(s.s.Data), e)
		}
		got, e := Get(b, s.src, s.dst)
		if e != api.OK || !same(got, s.s) {
			t.Fatalf("Get(Put(%v, %d bytes)) = %v, %d bytes, %d", bare(s.s), len(s.s.Data), bare(got), len(got.Data), e)
		}
		if again, e := Put(got, s.src, s.dst); e != api.OK || !bytes.Equal(again, b) {
			t.Fatalf("Put(Get(% x)) = % x, %d", b, again, e)
		}
	}
}

// P19.4: of segments by chance, with each of their numbers at an end of its own.
func TestGetOfPutEnds(t *testing.T) {
	next := chance()
	list := numbers()
	for which := range 1 << len(list) {
		for range 8 {
			s := byChance(next()%30, next)
			for i, n := range list {
				*n.at(&s.s) = which >> i & 1 * n.most
			}
			b, e := Put(s.s, s.src, s.dst)
			got, f := Get(b, s.src, s.dst)
			if e != api.OK || f != api.OK || !same(got, s.s) {
				t.Errorf("Get(Put(%+v)) = %+v, %d, %d", s.s, got, e, f)
			}
		}
	}
}
