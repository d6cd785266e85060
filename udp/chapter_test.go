package udp

import (
	"bytes"
	"math"
	"slices"

	"drawbridge/api"
)

// digits answers the digits of x, of 256 each, the highest first.
func digits(x int, many int) []byte {
	list := make([]byte, many)
	for i := range slices.Backward(list) {
		list[i] = byte(x % 256)
		x /= 256
	}
	return list
}

// numberOf answers the number of digits.
func numberOf(s string) int {
	x := 0
	for i := range len(s) {
		x = x*256 + int(s[i])
	}
	return x
}

// sumOf answers the checksum of b: pair by pair, a one that goes out at the top added at the bottom at once.
func sumOf(b []byte) int {
	total := 0
	for i, x := range b {
		if i%2 == 0 {
			total += 256 * int(x)
		} else {
			total += int(x)
		}
		if total > 65535 {
			total -= 65535
		}
	}
	return 65535 - total
}

// wholeOf answers the checksum of b behind its Pseudo: both addresses, 17, and how many bytes b has.
func wholeOf(b []byte, src uint32, dst uint32) int {
	return sumOf(slices.Concat(digits(int(src), 4), digits(int(dst), 4), []byte{0, 17}, digits(len(b), 2), b))
}

// summed answers b with its checksum at its place; one that comes out 0 is 65535.
func summed(b []byte, src uint32, dst uint32) []byte {
	c := bytes.Clone(b)
	copy(c[6:], []byte{0, 0})
	x := wholeOf(c, src, dst)
	if x == 0 {
		x = 65535
	}
	copy(c[6:], digits(x, 2))
	return c
}

// putOf answers what Put has to answer.
func putOf(u api.Udp, src uint32, dst uint32) ([]byte, api.Errno) {
	if u.Src < 0 || u.Src >= 65536 || u.Dst < 0 || u.Dst >= 65536 || len(u.Data) >= 65508 {
		return nil, api.ErrArg
	}
	b := make([]byte, 8+len(u.Data))
	copy(b, digits(u.Src, 2))
	copy(b[2:], digits(u.Dst, 2))
	copy(b[4:], digits(8+len(u.Data), 2))
	copy(b[8:], u.Data)
	return summed(b, src, dst), api.OK
}

// getOf answers what Get has to answer.
func getOf(b []byte, src uint32, dst uint32) (api.Udp, api.Errno) {
	s := string(b)
	if len(s) <= 7 {
		return api.Udp{}, api.ErrShort
	}
	all := numberOf(s[4:6])
	if all <= 7 {
		return api.Udp{}, api.ErrForm
	}
	if all > len(s) {
		return api.Udp{}, api.ErrShort
	}
	if s[6:8] != "\x00\x00" && wholeOf([]byte(s[:all]), src, dst) != 0 {
		return api.Udp{}, api.ErrSum
	}
	return api.Udp{Src: numberOf(s[0:2]), Dst: numberOf(s[2:4]), Data: []byte(s[8:all])}, api.OK
}

// same tells whether two datagrams are the same.
func same(u api.Udp, v api.Udp) bool {
	return u.Src == v.Src && u.Dst == v.Dst && bytes.Equal(u.Data, v.Data)
}

// chance answers numbers that no rule of the program would make, always the same ones.
func chance() func() int {
	x := uint64(0x9e3779b97f4a7c15)
	return func() int {
		x ^= x << 13
		x ^= x >> 7
		x ^= x << 17
		return int(x >> 1)
	}
}

// text answers n bytes by chance.
func text(n int, next func() int) []byte {
	b := make([]byte, n)
	for i := range b {
		b[i] = byte(next() >> 40)
	}
	return b
}

// run answers n bytes that go on from the first one, one by one.
func run(first int, n int) []byte {
	b := make([]byte, n)
	for i := range b {
		b[i] = byte(first + i)
	}
	return b
}

// The two sides of most datagrams of the tests: the guest, and who answers names.
const (
	guest = 0x0a00020f
	names = api.DnsIp
)

// plain answers a datagram with so many bytes of Data.
func plain(data int) api.Udp { return api.Udp{Src: 0x1122, Dst: 0x3344, Data: run(0xc1, data)} }

// sent is a datagram, and from where to where it goes.
type sent struct {
	u   api.Udp
	src uint32
	dst uint32
}

// bytes answers what is written of it.
func (s sent) bytes() []byte {
	b, _ := putOf(s.u, s.src, s.dst)
	return b
}

// sizes are numbers of bytes of Data: few, about those of a frame, about the most.
func sizes() []int {
	return []int{0, 1, 2, 3, 4, 7, 8, 9, 16, 17, 247, 248, 249, 255, 256, 257, 548, 1471, 1472, 1473, 32767, 32768, 65505, 65506, 65507}
}

// datagrams are such that may be, with few bytes of Data and with many.
func datagrams() []sent {
	list := []sent{{}}
	next := chance()
	for _, n := range sizes() {
		list = append(list,
			sent{plain(n), guest, names},
			sent{api.Udp{Data: make([]byte, n)}, 0, 0},
			sent{api.Udp{Src: 65535, Dst: 65535, Data: bytes.Repeat([]byte{255}, n)}, math.MaxUint32, math.MaxUint32},
			sent{api.Udp{Src: 65535, Data: run(n, n)}, 0, math.MaxUint32},
			sent{api.Udp{Dst: 65535, Data: run(n, n)}, math.MaxUint32, 0},
			byChance(n, next),
			byChance(n, next),
		)
	}
	return list
}

// byChance answers a datagram by chance that may be, with so many bytes of Data.
func byChance(data int, next func() int) sent {
	return sent{api.Udp{Src: next() % 65536, Dst: next() % 65536, Data: text(data, next)}, uint32(next()), uint32(next())}
}

// wrongPorts are numbers that are no port, such among them as are one where they are cut to fewer bits.
func wrongPorts() []int {
	return []int{
		math.MinInt, math.MinInt + 1, math.MinInt32, -1 << 32, -65537, -65536, -65535, -256, -53, -2, -1,
		65536, 65537, 65536 + 53, 131071, 1 << 31, 1<<31 + 53, 1 << 32, 1<<32 + 53, 1 << 62, math.MaxInt - 1, math.MaxInt,
	}
}
