package ip

import (
	"bytes"
	"math"
	"slices"

	"drawbridge/api"
)

// digits answers the digits of x, of 256 each, the highest first.
func digits(x int, many int) []byte {
	list := make([]byte, many)
	for i := range slices.Backward(list) {
		list[i] = byte(x % 256)
		x /= 256
	}
	return list
}

// numberOf answers the number of digits.
func numberOf(s string) int {
	x := 0
	for i := range len(s) {
		x = x*256 + int(s[i])
	}
	return x
}

// sumOf answers the checksum of b: pair by pair, a one that goes out at the top added at the bottom at once.
func sumOf(b []byte) int {
	total := 0
	for i, x := range b {
		if i%2 == 0 {
			total += 256 * int(x)
		} else {
			total += int(x)
		}
		if total > 65535 {
			total -= 65535
		}
	}
	return 65535 - total
}

// summed answers b with its checksum at a place.
func summed(b []byte, at int) []byte {
	c := bytes.Clone(b)
	copy(c[at:], []byte{0, 0})
	copy(c[at:], digits(sumOf(c), 2))
	return c
}

// maySend tells whether the chapter lets a packet be.
func maySend(p api.Ip) bool {
	for _, r := range [][2]int{{p.Tos, 255}, {p.Ttl, 255}, {p.Proto, 255}, {p.Id, 65535}, {p.Flags, 7}, {p.Off, 8191}} {
		if r[0] < 0 || r[0] > r[1] {
			return false
		}
	}
	if n := len(p.Options); n > 40 || n != n/4*4 {
		return false
	}
	return 20+len(p.Options)+len(p.Data) < 65536
}

// putOf answers what Put has to answer.
func putOf(p api.Ip) ([]byte, api.Errno) {
	if !maySend(p) {
		return nil, api.ErrArg
	}
	n := 20 + len(p.Options)
	b := make([]byte, n)
	b[0], b[1] = byte(64+n/4), byte(p.Tos)
	copy(b[2:], digits(n+len(p.Data), 2))
	copy(b[4:], digits(p.Id, 2))
	copy(b[6:], digits(p.Flags*8192+p.Off, 2))
	b[8], b[9] = byte(p.Ttl), byte(p.Proto)
	copy(b[12:], digits(int(p.Src), 4))
	copy(b[16:], digits(int(p.Dst), 4))
	copy(b[20:], p.Options)
	return append(summed(b, 10), p.Data...), api.OK
}

// getOf answers what Get has to answer.
func getOf(b []byte) (api.Ip, api.Errno) {
	s := string(b)
	if len(s) <= 19 {
		return api.Ip{}, api.ErrShort
	}
	if s[0]/16 != 4 || s[0]%16*4 < 20 {
		return api.Ip{}, api.ErrForm
	}
	n := int(s[0]%16) * 4
	if n > len(s) {
		return api.Ip{}, api.ErrShort
	}
	if sumOf([]byte(s[:n])) != 0 {
		return api.Ip{}, api.ErrSum
	}
	all := numberOf(s[2:4])
	if all < n {
		return api.Ip{}, api.ErrForm
	}
	if all > len(s) {
		return api.Ip{}, api.ErrShort
	}
	cut := numberOf(s[6:8])
	return api.Ip{
		Tos: int(s[1]), Id: numberOf(s[4:6]), Flags: cut / 8192, Off: cut % 8192, Ttl: int(s[8]), Proto: int(s[9]),
		Src: uint32(numberOf(s[12:16])), Dst: uint32(numberOf(s[16:20])), Options: []byte(s[20:n]), Data: []byte(s[n:all]),
	}, api.OK
}

// cutOf answers what Cut has to answer: eight bytes by eight bytes, as long as there is room.
func cutOf(p api.Ip, mtu int) ([]api.Ip, api.Errno) {
	whole, e := putOf(p)
	head := 20 + len(p.Options)
	switch {
	case e != api.OK:
		return nil, e
	case len(whole) <= mtu:
		return []api.Ip{clonePacket(p)}, api.OK
	case p.Flags/2%2 == 1:
		return nil, api.ErrForm
	case mtu < head+8 || p.Off+(len(p.Data)+7)/8 >= 8192:
		return nil, api.ErrArg
	}
	var list []api.Ip
	off := p.Off
	for left := string(p.Data); left != ""; {
		n := 0
		for head+n+8 <= mtu && n < len(left) {
			n += 8
		}
		n = min(n, len(left))
		q := clonePacket(p)
		q.Off, q.Data = off, []byte(left[:n])
		left, off = left[n:], off+n/8
		if left != "" && q.Flags%2 == 0 {
			q.Flags++
		}
		list = append(list, q)
	}
	return list, api.OK
}

// echoOf answers what Echo has to answer.
func echoOf(b []byte) ([]byte, bool) {
	if len(b) <= 7 || b[0] != 8 || b[1] != 0 || sumOf(b) != 0 {
		return nil, false
	}
	return summed(slices.Concat([]byte{0}, b[1:]), 2), true
}

// samePacket tells whether two packets are the same, samePackets whether two rows of them are.
func samePacket(p api.Ip, q api.Ip) bool {
	return p.Tos == q.Tos && p.Id == q.Id && p.Flags == q.Flags && p.Off == q.Off && p.Ttl == q.Ttl && p.Proto == q.Proto &&
		p.Src == q.Src && p.Dst == q.Dst && bytes.Equal(p.Options, q.Options) && bytes.Equal(p.Data, q.Data)
}

func samePackets(l []api.Ip, m []api.Ip) bool { return slices.EqualFunc(l, m, samePacket) }

// clonePacket answers a packet like p, which shares nothing with it.
func clonePacket(p api.Ip) api.Ip {
	p.Options, p.Data = append([]byte{}, p.Options...), append([]byte{}, p.Data...)
	return p
}

// chance answers numbers that no rule of the program would make, always the same ones.
func chance() func() int {
	x := uint64(0x9e3779b97f4a7c15)
	return func() int {
		x ^= x << 13
		x ^= x >> 7
		x ^= x << 17
		return int(x >> 1)
	}
}

// text answers n bytes by chance.
func text(n int, next func() int) []byte {
	b := make([]byte, n)
	for i := range b {
		b[i] = byte(next() >> 40)
	}
	return b
}

// run answers n bytes that go on from the first one, one by one.
func run(first int, n int) []byte {
	b := make([]byte, n)
	for i := range b {
		b[i] = byte(first + i)
	}
	return b
}

// plain answers a packet each of whose numbers is another, with Options and Data of so many bytes.
func plain(options int, data int) api.Ip {
	return api.Ip{
		Tos: 0x11, Id: 0x2233, Flags: 5, Off: 0x0a55, Ttl: 0x66, Proto: 0x77, Src: 0x01020304, Dst: 0x05060708,
		Options: run(0x81, options), Data: run(0xc1, data),
	}
}

// greatest answers a packet with the greatest of everything, and so many bytes of Options and Data.
func greatest(options int, data int) api.Ip {
	return api.Ip{
		Tos: 255, Id: 65535, Flags: 7, Off: 8191, Ttl: 255, Proto: 255, Src: math.MaxUint32, Dst: math.MaxUint32,
		Options: bytes.Repeat([]byte{255}, options), Data: bytes.Repeat([]byte{255}, data),
	}
}

// byChance answers a packet by chance that may be, with so many bytes of Options and Data.
func byChance(options int, data int, next func() int) api.Ip {
	return api.Ip{
		Tos: next() % 256, Id: next() % 65536, Flags: next() % 8, Off: next() % 8192, Ttl: next() % 256, Proto: next() % 256,
		Src: uint32(next()), Dst: uint32(next()), Options: text(options, next), Data: text(data, next),
	}
}

// packets are such that may be: of all sizes of Options, and of many of Data.
func packets() []api.Ip {
	list := []api.Ip{{}}
	next := chance()
	for options := 0; options <= 40; options += 4 {
		for _, data := range []int{0, 1, 2, 7, 8, 9, 15, 16, 17, 48, 100, 255, 256, 257, 1480, 1481} {
			list = append(list,
				plain(options, data),
				greatest(options, data),
				api.Ip{Options: make([]byte, options), Data: make([]byte, data)},
				byChance(options, data, next),
				byChance(options, data, next),
			)
		}
		most := 65535 - 20 - options
		list = append(list, plain(options, most), greatest(options, most), byChance(options, most-1, next))
	}
	return list
}

// numbered is a number of a packet's, with the greatest that it may be.
type numbered struct {
	name string
	most int
	at   func(p *api.Ip) *int
}

// numbers are the six of a packet that have bounds.
func numbers() []numbered {
	return []numbered{
		{"Tos", 255, func(p *api.Ip) *int { return &p.Tos }},
		{"Id", 65535, func(p *api.Ip) *int { return &p.Id }},
		{"Flags", 7, func(p *api.Ip) *int { return &p.Flags }},
		{"Off", 8191, func(p *api.Ip) *int { return &p.Off }},
		{"Ttl", 255, func(p *api.Ip) *int { return &p.Ttl }},
		{"Proto", 255, func(p *api.Ip) *int { return &p.Proto }},
	}
}

// wrong answers numbers that are not from 0 to most, such among them as are where they are cut to fewer bits.
func wrong(most int) []int {
	return []int{
		math.MinInt, math.MinInt + 1, math.MinInt32, -1 << 32, -65536, -8192, -most - 1, -most, -256, -8, -2, -1,
		most + 1, most + 2, 2*most + 1, 65536, 65537, 1 << 31, 1 << 32, 1<<32 + 1, 1 << 62, math.MaxInt - 1, math.MaxInt,
	}
}
