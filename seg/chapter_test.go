package seg

import (
	"bytes"
	"math"
	"slices"

	"drawbridge/api"
)

// digits answers the digits of x, of 256 each, the highest first.
func digits(x int, many int) []byte {
	list := make([]byte, many)
	for i := range slices.Backward(list) {
		list[i] = byte(x % 256)
		x /= 256
	}
	return list
}

// numberOf answers the number of digits.
func numberOf(s string) int {
	x := 0
	for i := range len(s) {
		x = x*256 + int(s[i])
	}
	return x
}

// sumOf answers the checksum of b: pair by pair, a one that goes out at the top added at the bottom at once.
func sumOf(b []byte) int {
	total := 0
	for i, x := range b {
		if i%2 == 0 {
			total += 256 * int(x)
		} else {
			total += int(x)
		}
		if total > 65535 {
			total -= 65535
		}
	}
	return 65535 - total
}

// wholeOf answers the checksum of b behind its Pseudo: both addresses, 6, and how many bytes b has, modulo 65536.
func wholeOf(b []byte, src uint32, dst uint32) int {
	return sumOf(slices.Concat(digits(int(src), 4), digits(int(dst), 4), []byte{0, 6}, digits(len(b), 2), b))
}

// summed answers b with its checksum at its place.
func summed(b []byte, src uint32, dst uint32) []byte {
	c := bytes.Clone(b)
	copy(c[16:], []byte{0, 0})
	copy(c[16:], digits(wholeOf(c, src, dst), 2))
	return c
}

// maySend tells whether the chapter lets a segment be.
func maySend(s api.Seg) bool {
	for _, r := range [][2]int{{s.Src, 65535}, {s.Dst, 65535}, {s.Win, 65535}, {s.Mss, 65535}, {s.Flags, 63}, {len(s.Data), 60000}} {
		if r[0] < 0 || r[0] > r[1] {
			return false
		}
	}
	return true
}

// putOf answers what Put has to answer.
func putOf(s api.Seg, src uint32, dst uint32) ([]byte, api.Errno) {
	if !maySend(s) {
		return nil, api.ErrArg
	}
	b := make([]byte, 20)
	copy(b, digits(s.Src, 2))
	copy(b[2:], digits(s.Dst, 2))
	copy(b[4:], digits(int(s.Seq), 4))
	copy(b[8:], digits(int(s.Ack), 4))
	b[12], b[13] = 5*16, byte(s.Flags)
	copy(b[14:], digits(s.Win, 2))
	if s.Mss > 0 {
		b[12] = 6 * 16
		b = append(b, 2, 4, byte(s.Mss/256), byte(s.Mss%256))
	}
	return summed(append(b, s.Data...), src, dst), api.OK
}

// optionsOf answers options one by one, up to a byte 0, without the bytes 1; false, if they are none.
func optionsOf(s string) ([]string, bool) {
	if s == "" || s[0] == 0 {
		return nil, true
	}
	if s[0] == 1 {
		return optionsOf(s[1:])
	}
	if len(s) == 1 || s[1] <= 1 || int(s[1]) > len(s) {
		return nil, false
	}
	rest, ok := optionsOf(s[s[1]:])
	return append([]string{s[:s[1]]}, rest...), ok
}

// mssOf answers the Mss of options.
func mssOf(options []string) int {
	for _, o := range options {
		if len(o) == 4 && o[0] == 2 {
			return numberOf(o[2:])
		}
	}
	return 0
}

// getOf answers what Get has to answer.
func getOf(b []byte, src uint32, dst uint32) (api.Seg, api.Errno) {
	s := string(b)
	if len(s) <= 19 {
		return api.Seg{}, api.ErrShort
	}
	head := int(s[12]) / 16 * 4
	if len(s) >= 65536 || head <= 19 {
		return api.Seg{}, api.ErrForm
	}
	if head > len(s) {
		return api.Seg{}, api.ErrShort
	}
	if wholeOf(b, src, dst) != 0 {
		return api.Seg{}, api.ErrSum
	}
	options, ok := optionsOf(s[20:head])
	if !ok {
		return api.Seg{}, api.ErrForm
	}
	return api.Seg{
		Src: numberOf(s[0:2]), Dst: numberOf(s[2:4]), Seq: uint32(numberOf(s[4:8])), Ack: uint32(numberOf(s[8:12])),
		Flags: int(s[13]) % 64, Win: numberOf(s[14:16]), Mss: mssOf(options), Data: []byte(s[head:]),
	}, api.OK
}

// bare answers all of a segment but Data.
func bare(s api.Seg) [7]int {
	return [7]int{s.Src, s.Dst, int(s.Seq), int(s.Ack), s.Flags, s.Win, s.Mss}
}

// same tells whether two segments are the same.
func same(s api.Seg, u api.Seg) bool { return bare(s) == bare(u) && bytes.Equal(s.Data, u.Data) }

// chance answers numbers that no rule of the program would make, always the same ones.
func chance() func() int {
	x := uint64(0x9e3779b97f4a7c15)
	return func() int {
		x ^= x << 13
		x ^= x >> 7
		x ^= x << 17
		return int(x >> 1)
	}
}

// text answers n bytes by chance.
func text(n int, next func() int) []byte {
	b := make([]byte, n)
	for i := range b {
		b[i] = byte(next() >> 40)
	}
	return b
}

// run answers n bytes that go on from the first one, one by one.
func run(first int, n int) []byte {
	b := make([]byte, n)
	for i := range b {
		b[i] = byte(first + i)
	}
	return b
}

// The two sides of most segments of the tests: the guest, and whom it calls.
const (
	guest  = 0x0a00020f
	remote = 0x5db8d822
)

// plain answers a segment each of whose numbers is another, without Mss, with so many bytes of Data.
func plain(data int) api.Seg {
	return api.Seg{Src: 0x1122, Dst: 0x3344, Seq: 0x55667788, Ack: 0x99aabbcc, Flags: 0x2d, Win: 0x0e0f, Data: run(0xc1, data)}
}

// withMss answers a segment like s with an Mss.
func withMss(s api.Seg, mss int) api.Seg {
	s.Mss = mss
	return s
}

// sent is a segment, and from where to where it goes.
type sent struct {
	s   api.Seg
	src uint32
	dst uint32
}

// bytes answers what is written of it.
func (s sent) bytes() []byte {
	b, _ := putOf(s.s, s.src, s.dst)
	return b
}

// greatest answers a segment with the greatest of everything, and so many bytes of Data.
func greatest(data int) api.Seg {
	return api.Seg{
		Src: 65535, Dst: 65535, Seq: math.MaxUint32, Ack: math.MaxUint32, Flags: 63, Win: 65535, Mss: 65535,
		Data: bytes.Repeat([]byte{255}, data),
	}
}

// byChance answers a segment by chance that may be, with so many bytes of Data, with an Mss or without.
func byChance(data int, next func() int) sent {
	s := api.Seg{
		Src: next() % 65536, Dst: next() % 65536, Seq: uint32(next()), Ack: uint32(next()), Flags: next() % 64, Win: next() % 65536,
		Data: text(data, next),
	}
	if next()%2 == 0 {
		s.Mss = next() % 65536
	}
	return sent{s, uint32(next()), uint32(next())}
}

// sizes are numbers of bytes of Data: few, about those of a frame, about the most.
func sizes() []int {
	return []int{0, 1, 2, 3, 4, 7, 8, 9, 231, 232, 233, 235, 236, 237, 255, 256, 257, 1459, 1460, 1461, 32767, 32768, 59998, 59999, 60000}
}

// segments are such that may be, with few bytes of Data and with many.
func segments() []sent {
	list := []sent{{}}
	next := chance()
	for _, n := range sizes() {
		list = append(list,
			sent{plain(n), guest, remote},
			sent{withMss(plain(n), api.MyMss), remote, guest},
			sent{withMss(plain(n), 1), guest, remote},
			sent{api.Seg{Data: make([]byte, n)}, 0, 0},
			sent{greatest(n), math.MaxUint32, math.MaxUint32},
			sent{withMss(greatest(n), 0), 0, math.MaxUint32},
			byChance(n, next),
			byChance(n, next),
		)
	}
	return list
}

// numbered is a number of a segment's, with the greatest that it may be.
type numbered struct {
	name string
	most int
	at   func(s *api.Seg) *int
}

// numbers are the five of a segment that have bounds.
func numbers() []numbered {
	return []numbered{
		{"Src", 65535, func(s *api.Seg) *int { return &s.Src }},
		{"Dst", 65535, func(s *api.Seg) *int { return &s.Dst }},
		{"Win", 65535, func(s *api.Seg) *int { return &s.Win }},
		{"Mss", 65535, func(s *api.Seg) *int { return &s.Mss }},
		{"Flags", 63, func(s *api.Seg) *int { return &s.Flags }},
	}
}

// wrong answers numbers that are not from 0 to most, such among them as are where they are cut to fewer bits.
func wrong(most int) []int {
	return []int{
		math.MinInt, math.MinInt + 1, math.MinInt32, -1 << 32, -65537, -65536, -65535, -256, -64, -most - 1, -most, -2, -1,
		most + 1, most + 2, 2*most + 1, 65536, 65537, 65536 + 53, 1 << 31, 1<<31 + 2, 1 << 32, 1<<32 + 53, 1 << 62, math.MaxInt - 1, math.MaxInt,
	}
}
