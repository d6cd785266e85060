package ether

import (
	"bytes"
	"math"
	"slices"

	"drawbridge/api"
)

// digits answers the digits of x, of 256 each, the highest first.
func digits(x int, many int) []byte {
	list := make([]byte, many)
	for i := range slices.Backward(list) {
		list[i] = byte(x % 256)
		x /= 256
	}
	return list
}

// numberOf answers the number of digits.
func numberOf(b []byte) int {
	x := 0
	for _, d := range b {
		x = x*256 + int(d)
	}
	return x
}

// putOf answers what Put has to answer.
func putOf(f api.Frame) ([]byte, api.Errno) {
	switch {
	case len(f.Dst) != 6, len(f.Src) != 6, f.Type < 0, f.Type > 65535, len(f.Data) > 1500:
		return nil, api.ErrArg
	}
	var b []byte
	for _, part := range [][]byte{f.Dst, f.Src, digits(f.Type, 2), f.Data} {
		b = append(b, part...)
	}
	return b, api.OK
}

// getOf answers what Get has to answer.
func getOf(b []byte) (api.Frame, api.Errno) {
	switch n := len(b); {
	case n <= 13:
		return api.Frame{}, api.ErrShort
	case n >= 1515:
		return api.Frame{}, api.ErrForm
	}
	s := string(b)
	return api.Frame{Dst: []byte(s[0:6]), Src: []byte(s[6:12]), Type: 256*int(s[12]) + int(s[13]), Data: []byte(s[14:])}, api.OK
}

// putArpOf answers what PutArp has to answer.
func putArpOf(a api.Arp) ([]byte, api.Errno) {
	if len(a.Smac) != 6 || len(a.Tmac) != 6 || a.Op != 1 && a.Op != 2 {
		return nil, api.ErrArg
	}
	b := make([]byte, 28)
	b[1], b[2], b[4], b[5], b[7] = 1, 8, 6, 4, byte(a.Op)
	copy(b[8:14], a.Smac)
	copy(b[14:18], digits(int(a.Sip), 4))
	copy(b[18:24], a.Tmac)
	copy(b[24:28], digits(int(a.Tip), 4))
	return b, api.OK
}

// getArpOf answers what GetArp has to answer: the message of which PutArp would make these bytes.
func getArpOf(b []byte) (api.Arp, api.Errno) {
	if len(b) <= 27 {
		return api.Arp{}, api.ErrShort
	}
	s := string(b[:28])
	a := api.Arp{
		Op:   numberOf([]byte(s[6:8])),
		Smac: []byte(s[8:14]),
		Sip:  uint32(numberOf([]byte(s[14:18]))),
		Tmac: []byte(s[18:24]),
		Tip:  uint32(numberOf([]byte(s[24:28]))),
	}
	if same, e := putArpOf(a); e != api.OK || string(same) != s {
		return api.Arp{}, api.ErrForm
	}
	return a, api.OK
}

// answerOf answers what Answer has to answer.
func answerOf(a api.Arp, mac []byte, ip uint32) (api.Arp, bool) {
	if a.Op == 1 && a.Tip == ip && len(mac) == 6 {
		return api.Arp{Op: 2, Smac: bytes.Clone(mac), Sip: ip, Tmac: bytes.Clone(a.Smac), Tip: a.Sip}, true
	}
	return api.Arp{}, false
}

// sameFrame tells whether two frames are the same.
func sameFrame(f api.Frame, g api.Frame) bool {
	return f.Type == g.Type && bytes.Equal(f.Dst, g.Dst) && bytes.Equal(f.Src, g.Src) && bytes.Equal(f.Data, g.Data)
}

// sameArp tells whether two messages are the same.
func sameArp(a api.Arp, c api.Arp) bool {
	return a.Op == c.Op && a.Sip == c.Sip && a.Tip == c.Tip && bytes.Equal(a.Smac, c.Smac) && bytes.Equal(a.Tmac, c.Tmac)
}

// cloneFrame and cloneArp answer ones like those they are given, which share nothing with them.
func cloneFrame(f api.Frame) api.Frame {
	return api.Frame{Dst: bytes.Clone(f.Dst), Src: bytes.Clone(f.Src), Type: f.Type, Data: bytes.Clone(f.Data)}
}

func cloneArp(a api.Arp) api.Arp {
	return api.Arp{Op: a.Op, Smac: bytes.Clone(a.Smac), Sip: a.Sip, Tmac: bytes.Clone(a.Tmac), Tip: a.Tip}
}

// chance answers numbers that no rule of the program would make, always the same ones.
func chance() func() int {
	x := uint64(0x9e3779b97f4a7c15)
	return func() int {
		x ^= x << 13
		x ^= x >> 7
		x ^= x << 17
		return int(x >> 1)
	}
}

// text answers n bytes by chance.
func text(n int, next func() int) []byte {
	b := make([]byte, n)
	for i := range b {
		b[i] = byte(next() >> 40)
	}
	return b
}

// run answers n bytes that go on from the first one, one by one.
func run(first int, n int) []byte {
	b := make([]byte, n)
	for i := range b {
		b[i] = byte(first + i)
	}
	return b
}

// wrongMacs are such that are no hardware addresses, by their lengths.
func wrongMacs() [][]byte {
	return [][]byte{nil, {}, run(1, 1), run(1, 5), run(1, 7), run(1, 8), run(1, 12), run(1, 262), run(1, 65542)}
}

// macs are hardware addresses: the least, the greatest, and such as tell their bytes apart.
func macs() [][]byte {
	return [][]byte{make([]byte, 6), bytes.Repeat([]byte{255}, 6), run(0x11, 6), run(0xf8, 6), {0x52, 0x55, 10, 0, 2, 2}}
}

// wrongTypes and wrongOps are such that there are not, among them those that are some type, or something that is done, where they are cut to fewer bits.
var (
	wrongTypes = []int{math.MinInt, math.MinInt + 0x800, math.MinInt32, -65536, -65535, -0x800, -256, -1, 65536, 65537, 65536 + 0x800, 1 << 31, 1 << 32, 1<<32 + 0x806, 1 << 62, math.MaxInt}
	wrongOps   = []int{math.MinInt, math.MinInt + 1, math.MinInt32, -65535, -65534, -257, -256, -255, -254, -2, -1, 0, 3, 4, 255, 256, 257, 258, 512, 513, 65535, 65536, 65537, 65538, 1<<32 + 1, 1<<32 + 2, math.MaxInt}
)

// types are some that there are, ips some addresses.
var (
	types = []int{0, 1, 127, 128, 255, 256, 257, 0x0800, 0x0806, 0x1234, 32767, 32768, 65279, 65280, 65534, 65535}
	ips   = []uint32{0, 1, 255, 256, 0x0a000202, 0x0a00020f, 0x01020304, 0x7fffffff, 0x80000000, 0xff000000, math.MaxUint32 - 1, math.MaxUint32}
)

// sizes are how many bytes Data have: each small number, and those about where there are too many.
func sizes() []int {
	list := []int{45, 46, 47, 63, 64, 65, 255, 256, 257, 1024, 1485, 1486, 1487, 1498, 1499, 1500}
	for n := range 20 {
		list = append(list, n)
	}
	return list
}

// frames are such that may be: of all types, and of all sizes.
func frames() []api.Frame {
	var list []api.Frame
	next := chance()
	for _, dst := range macs() {
		for _, src := range macs() {
			list = append(list, api.Frame{Dst: dst, Src: src, Type: api.TypeArp, Data: run(0x41, 28)})
		}
	}
	for _, kind := range types {
		list = append(list, api.Frame{Dst: run(1, 6), Src: run(7, 6), Type: kind, Data: run(13, 5)}, api.Frame{Dst: run(1, 6), Src: run(7, 6), Type: kind})
	}
	for _, n := range sizes() {
		list = append(list,
			api.Frame{Dst: run(1, 6), Src: run(7, 6), Type: 0x0d0e, Data: run(15, n)},
			api.Frame{Dst: make([]byte, 6), Src: make([]byte, 6), Data: make([]byte, n)},
			api.Frame{Dst: bytes.Repeat([]byte{255}, 6), Src: bytes.Repeat([]byte{255}, 6), Type: 65535, Data: bytes.Repeat([]byte{255}, n)},
			api.Frame{Dst: text(6, next), Src: text(6, next), Type: next() % 65536, Data: text(n, next)},
		)
	}
	return list
}

// messages are such that may be.
func messages() []api.Arp {
	var list []api.Arp
	next := chance()
	for op := 1; op <= 2; op++ {
		for _, smac := range macs() {
			for _, tmac := range macs() {
				list = append(list, api.Arp{Op: op, Smac: smac, Sip: 0x0a00020f, Tmac: tmac, Tip: api.GateIp})
			}
		}
		for _, sip := range ips {
			for _, tip := range ips {
				list = append(list, api.Arp{Op: op, Smac: run(1, 6), Sip: sip, Tmac: run(11, 6), Tip: tip})
			}
		}
		list = append(list,
			api.Arp{Op: op, Smac: make([]byte, 6), Tmac: make([]byte, 6)},
			api.Arp{Op: op, Smac: bytes.Repeat([]byte{255}, 6), Sip: math.MaxUint32, Tmac: bytes.Repeat([]byte{255}, 6), Tip: math.MaxUint32},
		)
		for range 40 {
			list = append(list, api.Arp{Op: op, Smac: text(6, next), Sip: uint32(next()), Tmac: text(6, next), Tip: uint32(next())})
		}
	}
	return list
}
