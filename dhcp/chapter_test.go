package dhcp

import (
	"bytes"
	"math"
	"slices"
	"strings"

	"drawbridge/api"
)

// digits answers the digits of x, of 256 each, the highest first.
func digits(x int, many int) []byte {
	list := make([]byte, many)
	for i := range slices.Backward(list) {
		list[i] = byte(x % 256)
		x /= 256
	}
	return list
}

// numberOf answers the number of digits.
func numberOf(s string) int {
	x := 0
	for i := range len(s) {
		x = x*256 + int(s[i])
	}
	return x
}

// maySend tells whether the chapter lets a message be.
func maySend(d api.Dhcp) bool {
	return slices.Contains([]int{1, 2}, d.Op) && len(d.Mac) == 6 && slices.Contains([]int{1, 2, 3, 4, 5, 6, 7, 8}, d.Type)
}

// headWritten answers the 240 bytes of a message that come first, gone through in their order.
func headWritten(d api.Dhcp) []byte {
	return slices.Concat(
		[]byte{byte(d.Op), 1, 6, 0},
		digits(int(d.Xid), 4),
		make([]byte, 4),
		digits(int(d.Ci), 4),
		digits(int(d.Yi), 4),
		make([]byte, 8),
		d.Mac,
		make([]byte, 202),
		[]byte{0x63, 0x82, 0x53, 0x63},
	)
}

// putOf answers what Put has to answer.
func putOf(d api.Dhcp) ([]byte, api.Errno) {
	if !maySend(d) {
		return nil, api.ErrArg
	}
	b := append(headWritten(d), 53, 1, byte(d.Type))
	for _, o := range [][2]int{{50, int(d.Want)}, {54, int(d.Server)}, {51, int(d.Lease)}, {1, int(d.Mask)}, {3, int(d.Router)}, {6, int(d.Dns)}} {
		if o[1] != 0 {
			b = append(append(b, byte(o[0]), 4), digits(o[1], 4)...)
		}
	}
	return append(b, 255), api.OK
}

// split answers options one by one, each without its size, up to a byte 255, without the bytes 0; false, if they are none.
func split(s string) ([]string, bool) {
	var list []string
	for s = strings.TrimLeft(s, "\x00"); s != "" && s[0] != 255; s = strings.TrimLeft(s, "\x00") {
		if len(s) == 1 || int(s[1]) > len(s[2:]) {
			return nil, false
		}
		told := s[2:][:s[1]]
		list = append(list, s[:1]+told)
		s = s[2+len(told):]
	}
	return list, true
}

// first answers the number of the first option of a number that has as many bytes as that asks for; 0 without.
func first(list []string, number byte) int {
	for _, o := range list {
		told := o[1:]
		switch {
		case o[0] != number:
		case number == 53 && len(told) == 1, number != 53 && len(told) == 4:
			return numberOf(told)
		case (number == 3 || number == 6) && len(told) >= 5:
			return numberOf(told[:4])
		}
	}
	return 0
}

// getOf answers what Get has to answer.
func getOf(b []byte) (api.Dhcp, api.Errno) {
	s := string(b)
	if len(s) <= 239 {
		return api.Dhcp{}, api.ErrShort
	}
	list, ok := split(s[240:])
	d := api.Dhcp{
		Op: numberOf(s[:1]), Xid: uint32(numberOf(s[4:8])), Ci: uint32(numberOf(s[12:16])), Yi: uint32(numberOf(s[16:20])), Mac: []byte(s[28:34]),
		Type: first(list, 53), Want: uint32(first(list, 50)), Server: uint32(first(list, 54)), Lease: uint32(first(list, 51)),
		Mask: uint32(first(list, 1)), Router: uint32(first(list, 3)), Dns: uint32(first(list, 6)),
	}
	if !ok || s[1] != 1 || s[2] != 6 || s[236:240] != "\x63\x82\x53\x63" || !maySend(d) {
		return api.Dhcp{}, api.ErrForm
	}
	return d, api.OK
}

// bare answers all of a message but Mac.
func bare(d api.Dhcp) [11]int {
	return [11]int{d.Op, int(d.Xid), int(d.Ci), int(d.Yi), d.Type, int(d.Want), int(d.Server), int(d.Lease), int(d.Mask), int(d.Router), int(d.Dns)}
}

// same tells whether two messages are the same.
func same(d api.Dhcp, e api.Dhcp) bool { return bare(d) == bare(e) && bytes.Equal(d.Mac, e.Mac) }

// chance answers numbers that no rule of the program would make, always the same ones.
func chance() func() int {
	x := uint64(0x9e3779b97f4a7c15)
	return func() int {
		x ^= x << 13
		x ^= x >> 7
		x ^= x << 17
		return int(x >> 1)
	}
}

// text answers n bytes by chance.
func text(n int, next func() int) []byte {
	b := make([]byte, n)
	for i := range b {
		b[i] = byte(next() >> 40)
	}
	return b
}

// run answers n bytes that go on from the first one, one by one.
func run(first int, n int) []byte {
	b := make([]byte, n)
	for i := range b {
		b[i] = byte(first + i)
	}
	return b
}

// plain answers a message of a type, without any option besides.
func plain(kind int) api.Dhcp {
	return api.Dhcp{Op: 1, Xid: 0xa1a2a3a4, Ci: 0xb1b2b3b4, Yi: 0xc1c2c3c4, Mac: run(0xd1, 6), Type: kind}
}

// full answers a message each of whose numbers is another.
func full() api.Dhcp {
	d := plain(api.DhcpAck)
	d.Op = 2
	for i, o := range optional() {
		*o.at(&d) = uint32(numberOf(string(run(0x11+0x10*i, 4))))
	}
	return d
}

// greatest answers a message with the greatest of everything.
func greatest() api.Dhcp {
	d := api.Dhcp{Op: 2, Mac: bytes.Repeat([]byte{255}, 6), Type: 8}
	for _, n := range longs() {
		*n.at(&d) = math.MaxUint32
	}
	return d
}

// least answers a message with the least of everything.
func least() api.Dhcp { return api.Dhcp{Op: 1, Mac: make([]byte, 6), Type: 1} }

// byChance answers a message by chance that may be; each option is there or not.
func byChance(next func() int) api.Dhcp {
	d := api.Dhcp{Op: 1 + next()%2, Mac: text(6, next), Type: 1 + next()%8}
	for _, n := range longs() {
		if next()%3 != 0 {
			*n.at(&d) = uint32(next())
		}
		if next()%8 == 0 {
			*n.at(&d) >>= next() % 32
		}
	}
	return d
}

// messages are such that may be.
func messages() []api.Dhcp {
	list := []api.Dhcp{least(), greatest(), full()}
	for kind := 1; kind <= 8; kind++ {
		list = append(list, plain(kind))
	}
	next := chance()
	for range 500 {
		list = append(list, byChance(next))
	}
	return list
}

// placed is a number of four bytes: where it stands in the head, or of which option it is.
type placed struct {
	name   string
	head   int
	option byte
	at     func(d *api.Dhcp) *uint32
}

// optional are the numbers that stand in options, in their order.
func optional() []placed {
	return []placed{
		{"Want", 0, 50, func(d *api.Dhcp) *uint32 { return &d.Want }},
		{"Server", 0, 54, func(d *api.Dhcp) *uint32 { return &d.Server }},
		{"Lease", 0, 51, func(d *api.Dhcp) *uint32 { return &d.Lease }},
		{"Mask", 0, 1, func(d *api.Dhcp) *uint32 { return &d.Mask }},
		{"Router", 0, 3, func(d *api.Dhcp) *uint32 { return &d.Router }},
		{"Dns", 0, 6, func(d *api.Dhcp) *uint32 { return &d.Dns }},
	}
}

// longs are all numbers of four bytes.
func longs() []placed {
	return append([]placed{
		{"Xid", 4, 0, func(d *api.Dhcp) *uint32 { return &d.Xid }},
		{"Ci", 12, 0, func(d *api.Dhcp) *uint32 { return &d.Ci }},
		{"Yi", 16, 0, func(d *api.Dhcp) *uint32 { return &d.Yi }},
	}, optional()...)
}

// edges are numbers of four bytes about their ends, and such that have noughts in some places.
func edges() []uint32 {
	return []uint32{
		1, 2, 127, 128, 255, 256, 257, 65535, 65536, 1 << 24, 0x00ff0000, 0xff000000, 0x0a00020f, 0x12345678, 1<<31 - 1, 1 << 31, 1<<31 + 1,
		math.MaxUint32 - 1, math.MaxUint32,
	}
}

// wrong answers numbers that are not from 1 to most, such among them as are where they are cut to fewer bits.
func wrong(most int) []int {
	return []int{
		math.MinInt, math.MinInt + 1, math.MinInt32, -1 << 32, -1<<32 + 1, -65535, -256, -255, -254, -most - 1, -most, -2, -1, 0,
		most + 1, most + 2, 2*most + 1, 255, 256, 257, 258, 65536, 65537, 65538, 1 << 31, 1<<31 + 1, 1 << 32, 1<<32 + 1, 1<<32 + 2,
		1<<62 + 1, math.MaxInt - 1, math.MaxInt,
	}
}
