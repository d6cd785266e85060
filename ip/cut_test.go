package ip

import (
	"bytes"
	"math"
	"slices"
	"testing"

	"drawbridge/api"
)

// cuts tells of a Cut that is not as the chapter has it.
func cuts(t *testing.T, p api.Ip, mtu int) {
	t.Helper()
	got, e := Cut(p, mtu)
	if want, number := cutOf(p, mtu); e != number || !samePackets(got, want) {
		t.Fatalf("Cut(%+v, %d) = %+v, %d, not %+v, %d", p, mtu, got, e, want, number)
	}
}

// refusesCut tells of a Cut that does not refuse a packet by a number.
func refusesCut(t *testing.T, p api.Ip, mtu int, want api.Errno) {
	t.Helper()
	if got, e := Cut(p, mtu); e != want || len(got) != 0 {
		t.Errorf("Cut of %d bytes (Flags %d, Off %d) to %d: %d pieces, %d, not %d", 20+len(p.Options)+len(p.Data), p.Flags, p.Off, mtu, len(got), e, want)
	}
}

// lengths answers how many bytes of Data each of some packets has.
func lengths(l []api.Ip) []int {
	var list []int
	for _, p := range l {
		list = append(list, len(p.Data))
	}
	return list
}

// far are mtus that no packet has.
var far = []int{math.MinInt, math.MinInt + 1, math.MinInt + 19, math.MinInt + 28, math.MinInt32, -1 << 32, -65536, -1500, -68, -28, -20, -8, -1, 0, 1, 1 << 16, 1<<16 + 68, 1 << 32, 1<<32 + 68, math.MaxInt - 28, math.MaxInt - 8, math.MaxInt}

// P17.3: the chapter's example, told part by part.
func TestCutExample(t *testing.T) {
	p := api.Ip{Tos: 1, Id: 2, Off: 5, Ttl: 3, Proto: 4, Src: 6, Dst: 7, Data: run(0, 100)}
	got, e := Cut(p, 68)
	want := []api.Ip{
		{Tos: 1, Id: 2, Flags: 1, Off: 5, Ttl: 3, Proto: 4, Src: 6, Dst: 7, Data: run(0, 48)},
		{Tos: 1, Id: 2, Flags: 1, Off: 11, Ttl: 3, Proto: 4, Src: 6, Dst: 7, Data: run(48, 48)},
		{Tos: 1, Id: 2, Flags: 0, Off: 17, Ttl: 3, Proto: 4, Src: 6, Dst: 7, Data: run(96, 4)},
	}
	if e != api.OK || !samePackets(got, want) {
		t.Errorf("Cut = %+v, %d, not %+v", got, e, want)
	}
}

// P17.3: how many bytes each piece has.
func TestCutLengths(t *testing.T) {
	for _, c := range []struct {
		options, data, mtu int
		want               []int
	}{
		{0, 100, 119, []int{96, 4}},
		{0, 100, 116, []int{96, 4}},
		{0, 100, 115, []int{88, 12}},
		{0, 100, 68, []int{48, 48, 4}},
		{0, 100, 75, []int{48, 48, 4}},
		{0, 100, 76, []int{56, 44}},
		{0, 96, 68, []int{48, 48}},
		{0, 97, 68, []int{48, 48, 1}},
		// What is left would have room, but the last one, too, has at most the most that is a multiple of eight.
		{0, 54, 73, []int{48, 6}},
		{0, 102, 75, []int{48, 48, 6}},
		{0, 49, 68, []int{48, 1}},
		{0, 16, 28, []int{8, 8}},
		{0, 16, 35, []int{8, 8}},
		{0, 17, 28, []int{8, 8, 1}},
		{0, 9, 28, []int{8, 1}},
		{40, 9, 68, []int{8, 1}},
		{40, 20, 75, []int{8, 8, 4}},
		{40, 20, 76, []int{16, 4}},
		{4, 30, 40, []int{16, 14}},
		{0, 1481, 1500, []int{1480, 1}},
		{0, 3000, 1500, []int{1480, 1480, 40}},
		{0, 3000, 1499, []int{1472, 1472, 56}},
		{40, 3000, 1500, []int{1440, 1440, 120}},
	} {
		p := plain(c.options, c.data)
		p.Off = 0
		got, e := Cut(p, c.mtu)
		if e != api.OK || !slices.Equal(lengths(got), c.want) {
			t.Errorf("Cut of %d and %d bytes to %d: %v, %d, not %v", c.options, c.data, c.mtu, lengths(got), e, c.want)
		}
		cuts(t, p, c.mtu)
	}
}

// P17.3: a packet that is not longer than mtu is itself, alone, whatever its Flags and its Off are.
func TestCutAlone(t *testing.T) {
	for _, p := range packets() {
		for flags := range 8 {
			p.Flags = flags
			all := 20 + len(p.Options) + len(p.Data)
			for _, mtu := range []int{all, all + 1, all + 8, 65535, 65536, math.MaxInt} {
				if got, e := Cut(p, mtu); mtu >= all && (e != api.OK || len(got) != 1 || !samePacket(got[0], p)) {
					t.Fatalf("Cut of %d bytes to %d: %d pieces, %d", all, mtu, len(got), e)
				}
			}
		}
	}
}

// P17.3: each mtu about 0, the head, the head and eight bytes, and the packet's length, for Data of each small number of bytes.
func TestCutMtus(t *testing.T) {
	for options := 0; options <= 40; options += 8 {
		for data := range 60 {
			p := plain(options, data)
			p.Flags = 4
			head := 20 + options
			for mtu := -30; mtu < head+data+20; mtu++ {
				cuts(t, p, mtu)
				if mtu < head+8 && mtu < head+data {
					refusesCut(t, p, mtu, api.ErrArg)
				} else if _, e := Cut(p, mtu); e != api.OK {
					t.Errorf("Cut of %d and %d bytes to %d: %d", options, data, mtu, e)
				}
			}
			for _, mtu := range far {
				cuts(t, p, mtu)
				if mtu < 20 {
					refusesCut(t, p, mtu, api.ErrArg)
				}
			}
		}
	}
}

// P17.3: a packet without Data, or with at most eight bytes, is never cut.
func TestCutFewData(t *testing.T) {
	for _, data := range []int{0, 1, 7, 8} {
		p := api.Ip{Data: run(0, data)}
		for mtu := -10; mtu < 20+data; mtu++ {
			refusesCut(t, p, mtu, api.ErrArg)
		}
		if got, e := Cut(p, 20+data); e != api.OK || len(got) != 1 {
			t.Errorf("Cut of %d bytes: %d, %d", data, len(got), e)
		}
	}
	got, e := Cut(api.Ip{Data: run(0, 9)}, 28)
	if e != api.OK || !slices.Equal(lengths(got), []int{8, 1}) {
		t.Errorf("Cut of 9 bytes: %v, %d", lengths(got), e)
	}
	refusesCut(t, api.Ip{Data: run(0, 9)}, 27, api.ErrArg)
}

// P17.3: each of the Flags: with 2 a longer packet is refused, ahead of all that an mtu or an Off would be refused for; else each piece has 1, but the last one, which has as the packet.
func TestCutFlags(t *testing.T) {
	for flags := range 8 {
		p := plain(4, 50)
		p.Flags = flags
		got, e := Cut(p, 40)
		if flags&2 == 2 {
			for mtu := range 74 {
				refusesCut(t, p, mtu, api.ErrForm)
			}
			for _, mtu := range far {
				if mtu < 74 {
					refusesCut(t, p, mtu, api.ErrForm)
				}
			}
			p.Off = 8191
			refusesCut(t, p, 40, api.ErrForm)
			continue
		}
		if e != api.OK || len(got) != 4 {
			t.Fatalf("Cut with Flags %d: %d pieces, %d", flags, len(got), e)
		}
		for i, q := range got {
			want := flags
			if i < 3 {
				want = flags | 1
			}
			if q.Flags != want {
				t.Errorf("Cut with Flags %d: piece %d has %d", flags, i, q.Flags)
			}
		}
	}
}

// P17.3: Off, and an eighth of Data, rounded up, about its greatest.
func TestCutOff(t *testing.T) {
	for data := 9; data < 70; data++ {
		p := plain(0, data)
		p.Flags = 1
		eighths := data / 8
		if data%8 != 0 {
			eighths++
		}
		for off := 8191 - eighths - 3; off <= 8191; off++ {
			p.Off = off
			for _, mtu := range []int{28, 35, 36, 52, 60} {
				cuts(t, p, mtu)
				if mtu < 20+data && off+eighths > 8191 {
					refusesCut(t, p, mtu, api.ErrArg)
				} else if _, e := Cut(p, mtu); e != api.OK {
					t.Errorf("Cut of %d bytes with Off %d: %d", data, off, e)
				}
			}
			if got, e := Cut(p, 20+data); e != api.OK || len(got) != 1 || got[0].Off != off {
				t.Errorf("Cut of %d bytes with Off %d: %d", data, off, e)
			}
		}
	}
	// The longest one has no Off that could go wrong.
	p := api.Ip{Data: make([]byte, 65515)}
	for off, want := range map[int]api.Errno{0: api.OK, 1: api.OK, 2: api.ErrArg, 8191: api.ErrArg} {
		p.Off = off
		if _, e := Cut(p, 1500); e != want {
			t.Errorf("Cut of 65535 bytes with Off %d: %d", off, e)
		}
	}
}

// P17.3: Options, Id and all else stand in each piece, and each has its Data's place.
func TestCutPieces(t *testing.T) {
	next := chance()
	for options := 0; options <= 40; options += 4 {
		for _, p := range []api.Ip{plain(options, 200), byChance(options, 201, next), byChance(options, 3333, next), greatest(options, 100)} {
			p.Flags &= 5
			p.Off %= 4000
			for _, mtu := range []int{28 + options, 68 + options, 100 + options} {
				got, e := Cut(p, mtu)
				if e != api.OK {
					t.Fatalf("Cut(%+v, %d): %d", p, mtu, e)
				}
				for _, q := range got {
					at := 8 * (q.Off - p.Off)
					want := p
					want.Flags, want.Off, want.Data = q.Flags, q.Off, p.Data[at:at+len(q.Data)]
					if !samePacket(q, want) {
						t.Fatalf("Cut(%+v, %d): %+v, not %+v", p, mtu, q, want)
					}
				}
			}
		}
	}
}

// P17.3: a packet that Put refuses has its number, whatever mtu and Flags are.
func TestCutRefused(t *testing.T) {
	for _, n := range numbers() {
		for _, x := range wrong(n.most) {
			for _, flags := range []int{0, 2} {
				p := plain(4, 90)
				p.Flags = flags
				*n.at(&p) = x
				for _, mtu := range []int{-1, 0, 40, 68, 114, 1500, math.MaxInt} {
					if x < 0 || x > n.most {
						refusesCut(t, p, mtu, api.ErrArg)
					}
					cuts(t, p, mtu)
				}
			}
		}
	}
	for _, options := range []int{1, 2, 3, 5, 39, 41, 44, 64, 1000} {
		for _, mtu := range []int{-1, 0, 68, 1500, math.MaxInt} {
			p := plain(options, 90)
			refusesCut(t, p, mtu, api.ErrArg)
			p.Flags = 2
			refusesCut(t, p, mtu, api.ErrArg)
		}
	}
	for _, data := range []int{65536 - 20, 65536, 1 << 18} {
		p := api.Ip{Data: make([]byte, data)}
		for _, flags := range []int{0, 1, 2} {
			p.Flags = flags
			for _, mtu := range []int{28, 1500, 65535, math.MaxInt} {
				refusesCut(t, p, mtu, api.ErrArg)
			}
		}
	}
}

// P17.5: the pieces' Data together are the packet's; each fits, and each but the last one has the most that is a multiple of eight.
func TestCutTogether(t *testing.T) {
	cut := 0
	for _, p := range packets() {
		p.Flags, p.Off = p.Flags&5, 0
		head := 20 + len(p.Options)
		for _, mtu := range []int{head + 8, head + 9, head + 15, head + 16, 68, 576, 1500, 9000} {
			got, e := Cut(p, mtu)
			if e != api.OK {
				if mtu >= head+8 {
					t.Fatalf("Cut of %d and %d bytes to %d: %d", head, len(p.Data), mtu, e)
				}
				continue
			}
			var all []byte
			for i, q := range got {
				b, e := Put(q)
				if e != api.OK || len(b) > mtu {
					t.Fatalf("a piece of %d bytes of %d: %d", len(b), mtu, e)
				}
				if i < len(got)-1 && (len(q.Data)%8 != 0 || len(b)+8 <= mtu) {
					t.Fatalf("piece %d has %d bytes of %d", i, len(b), mtu)
				}
				if back, e := Get(b); e != api.OK || !samePacket(back, q) {
					t.Fatalf("Get(Put(%+v)) = %+v, %d", q, back, e)
				}
				all = append(all, q.Data...)
			}
			if !bytes.Equal(all, p.Data) {
				t.Fatalf("the pieces of %d bytes to %d: %d bytes", len(p.Data), mtu, len(all))
			}
			if len(got) > 1 {
				cut++
			}
		}
	}
	if cut < 1000 {
		t.Errorf("just %d were cut", cut)
	}
}

// P17.3: pieces that are cut again lie as if they were cut at once.
func TestCutAgain(t *testing.T) {
	p := plain(8, 1000)
	p.Flags = 0
	for _, mtu := range []int{100, 200, 333} {
		first, _ := Cut(p, mtu)
		var list []api.Ip
		for _, q := range first {
			more, e := Cut(q, 60)
			if e != api.OK {
				t.Fatal(e)
			}
			list = append(list, more...)
		}
		var all []byte
		for i, q := range list {
			if q.Off != p.Off+len(all)/8 || (q.Flags == 1) != (i < len(list)-1) {
				t.Fatalf("piece %d: Flags %d, Off %d", i, q.Flags, q.Off)
			}
			all = append(all, q.Data...)
		}
		if !bytes.Equal(all, p.Data) {
			t.Errorf("%d bytes in %d pieces", len(all), len(list))
		}
	}
}
