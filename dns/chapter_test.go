package dns

import (
	"bytes"
	"math"
	"slices"
	"strings"

	"drawbridge/api"
)

// letters may stand in a label, and small stands for them in a name.
const (
	letters = "ABCDEFGHIJKLMNOPQRSTUVWXYZabcdefghijklmnopqrstuvwxyz0123456789-_"
	small   = "abcdefghijklmnopqrstuvwxyzabcdefghijklmnopqrstuvwxyz0123456789-_"
)

// digits answers the two digits of x, of 256 each, the highest first.
func digits(x int) []byte { return []byte{byte(x / 256), byte(x % 256)} }

// numberOf answers the number of digits.
func numberOf(s string) int {
	x := 0
	for i := range len(s) {
		x = x*256 + int(s[i])
	}
	return x
}

// remainder answers x modulo most, which is never below 0.
func remainder(x int, most int) int { return (x%most + most) % most }

// questionOf answers what Question has to answer: byte by byte, each of which is a label's, or tells how many more are.
func questionOf(b []byte) (string, int, api.Errno) {
	if len(b) <= 11 {
		return "", 0, api.ErrShort
	}
	if string(b[4:6]) != "\x00\x01" {
		return "", 0, api.ErrForm
	}
	var name []byte
	more := 0
	for i, x := range b[12:] {
		switch tail := string(b[12+i+1:]); {
		case more > 0:
			which := strings.IndexByte(letters, x)
			if which < 0 {
				return "", 0, api.ErrForm
			}
			name = append(name, small[which])
			more--
			// So many bytes are behind the label, and the 0 is to come.
			if more == 0 && i+2 > 255 {
				return "", 0, api.ErrForm
			}
		case x >= 64:
			return "", 0, api.ErrForm
		case x > 0:
			name = append(name, '.')
			more = int(x)
		case len(tail) < 4:
			return "", 0, api.ErrShort
		default:
			return strings.TrimPrefix(string(name), "."), numberOf(tail[:2]), api.OK
		}
	}
	return "", 0, api.ErrShort
}

// mayAsk tells whether the chapter lets a name be asked for.
func mayAsk(name string) bool {
	if name == "" || name == "." {
		return true
	}
	for label := range strings.SplitSeq(strings.TrimSuffix(name, "."), ".") {
		if label == "" || len(label) >= 64 || strings.Trim(label, letters) != "" {
			return false
		}
	}
	return len(labelled(name)) <= 255
}

// labelled answers the labels of a name, with their sizes and the 0.
func labelled(name string) []byte {
	var b []byte
	for label := range strings.FieldsFuncSeq(name, func(r rune) bool { return r == '.' }) {
		b = append(b, byte(len(label)))
		b = append(b, label...)
	}
	return append(b, 0)
}

// askOf answers what Ask has to answer.
func askOf(id int, name string, kind int) ([]byte, api.Errno) {
	if max(id, kind) > 65535 || min(id, kind) < 0 || !mayAsk(name) {
		return nil, api.ErrArg
	}
	return slices.Concat(digits(id), []byte{1, 0, 0, 1, 0, 0, 0, 0, 0, 0}, labelled(name), digits(kind), []byte{0, 1}), api.OK
}

// idOf answers what Id has to answer.
func idOf(b []byte) (int, bool) {
	if len(b) <= 11 {
		return 0, false
	}
	return numberOf(string(b[:2])), true
}

// withOf answers what With has to answer.
func withOf(b []byte, id int) []byte {
	if len(b) <= 11 {
		return b
	}
	return append(digits(remainder(id, 65536)), b[2:]...)
}

// queryOf answers what Query has to answer.
func queryOf(b []byte) bool { return len(b) >= 12 && b[2] <= 127 }

// failOf answers what Fail has to answer.
func failOf(b []byte, code int) ([]byte, bool) {
	name, _, e := questionOf(b)
	if e != api.OK || !queryOf(b) {
		return nil, false
	}
	many := len(labelled(name)) + 4
	return slices.Concat(b[:2], []byte{129, byte(128 + remainder(code, 16)), 0, 1, 0, 0, 0, 0, 0, 0}, b[12:][:many]), true
}

// chance answers numbers that no rule of the program would make, always the same ones.
func chance() func() int {
	x := uint64(0x9e3779b97f4a7c15)
	return func() int {
		x ^= x << 13
		x ^= x >> 7
		x ^= x << 17
		return int(x >> 1)
	}
}

// text answers n bytes by chance.
func text(n int, next func() int) []byte {
	b := make([]byte, n)
	for i := range b {
		b[i] = byte(next() >> 40)
	}
	return b
}

// run answers n bytes that go on from the first one, one by one.
func run(first int, n int) []byte {
	b := make([]byte, n)
	for i := range b {
		b[i] = byte(first + i)
	}
	return b
}

// word answers n bytes that may stand in a label, by chance.
func word(n int, next func() int) string {
	b := make([]byte, n)
	for i := range b {
		b[i] = letters[next()%len(letters)]
	}
	return string(b)
}

// sizesOf answers the sizes of labels of at most most bytes each, whose name has n bytes.
func sizesOf(n int, most int) []int {
	var list []int
	for n > 0 {
		size := min(most, n)
		// Behind a dot there has to be another label.
		if n-size == 1 && size > 1 {
			size--
		} else if n-size == 1 {
			size++
		}
		list = append(list, size)
		n -= size + 1
	}
	return list
}

// named answers a name of n bytes by chance, whose labels have at most most bytes.
func named(n int, most int, next func() int) string {
	var list []string
	for _, size := range sizesOf(n, most) {
		list = append(list, word(size, next))
	}
	return strings.Join(list, ".")
}

// names are such that may be, without a dot at their end: of each length, in short labels and in long ones, and by chance.
func names() []string {
	next := chance()
	var list []string
	for n := range 254 {
		for _, most := range []int{1, 2, 3, 7, 31, 62, 63} {
			list = append(list, named(n, most, next))
		}
		for range 5 {
			list = append(list, named(n, 1+next()%63, next))
		}
	}
	return list
}

// head answers one that asks, each of whose other numbers is another.
func head() []byte {
	return []byte{0xa1, 0xa2, 0x23, 0x45, 0, 1, 0xb1, 0xb2, 0xb3, 0xb4, 0xb5, 0xb6}
}

// tail answers the four bytes that follow, the kind first.
func tail() []byte { return []byte{0xc1, 0xc2, 0xc3, 0xc4} }

// asking answers a message whose head is followed by these.
func asking(parts ...[]byte) []byte { return append(head(), slices.Concat(parts...)...) }

// label answers the bytes of a label.
func label(s string) []byte { return append([]byte{byte(len(s))}, s...) }

// end answers the 0 behind all labels.
func end() []byte { return []byte{0} }

// filled answers labels that have so many bytes with their sizes, but without the 0; each has at most most bytes.
func filled(many int, most int) []byte {
	// A name has one byte fewer than its labels have with their sizes.
	b := labelled(named(many-1, most, chance()))
	return b[:len(b)-1]
}

// lower answers a name in small letters.
func lower(name string) string {
	b := []byte(name)
	for i, x := range b {
		if which := strings.IndexByte(letters, x); which >= 0 {
			b[i] = small[which]
		}
	}
	return string(b)
}

// as answers b with another byte at a place.
func as(b []byte, at int, x byte) []byte {
	b = bytes.Clone(b)
	b[at] = x
	return b
}

// wrong answers numbers that are not from 0 to 65535; all of them are where they are cut to fewer bits.
func wrong() []int {
	return []int{
		math.MinInt, math.MinInt + 1, math.MinInt + 65535, math.MinInt32, -1 << 32, -1<<32 + 1, -65537, -65536, -65535, -256, -2, -1,
		65536, 65537, 65536 + 256, 131071, 131072, 1<<31 - 1, 1 << 31, 1<<31 + 1, 1<<32 - 1, 1 << 32, 1<<32 + 1, 1<<32 + 65535, 1 << 48, 1<<62 + 1,
		math.MaxInt - 1, math.MaxInt,
	}
}
