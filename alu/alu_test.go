package alu

import (
	"slices"
	"testing"

	"drawbridge/api"
)

// sums are the F that Do has, narrow those of them that it has of words (P4.1, P4.2).
var (
	sums   = []int{0, 1, 2, 3, 4, 5, 6, 7, 8, 13, 16, 17, 18, 19, 20, 21, 22, 23}
	narrow = []int{api.Add, api.Sll, api.Srl, api.Sub, api.Sra, api.Mul, api.Div, api.Divu, api.Rem, api.Remu}
)

// one is a call of Do or Amo, and its answer.
type one struct {
	f    int
	a, b uint64
	want uint64
}

// P4.1: the chapter's example, and what RISC-V's manual tells of each F.
func TestDoExamples(t *testing.T) {
	for _, c := range []one{
		{api.Div, minus(7), 2, minus(3)},
		{api.Rem, minus(7), 2, minus(1)},
		{api.Div, 7, minus(2), minus(3)},
		{api.Rem, 7, minus(2), 1},
		{api.Div, minus(7), minus(2), 3},
		{api.Rem, minus(7), minus(2), minus(1)},
		{api.Add, ones, 2, 1},
		{api.Add, 1<<63 - 1, 1, 1 << 63},
		{api.Sub, 1, 2, ones},
		{api.Sub, 1 << 63, 1, 1<<63 - 1},
		{api.Sll, 1, 63, 1 << 63},
		{api.Sll, 3, 63, 1 << 63},
		{api.Srl, 1 << 63, 63, 1},
		{api.Sra, 1 << 63, 63, ones},
		{api.Sra, 1 << 62, 62, 1},
		{api.Slt, minus(1), 0, 1},
		{api.Slt, 0, minus(1), 0},
		{api.Slt, 5, 5, 0},
		{api.Sltu, minus(1), 0, 0},
		{api.Sltu, 0, minus(1), 1},
		{api.Sltu, 5, 5, 0},
		{api.Xor, 0xff00, 0x0ff0, 0xf0f0},
		{api.Or, 0xff00, 0x0ff0, 0xfff0},
		{api.And, 0xff00, 0x0ff0, 0x0f00},
		{api.Mul, 1 << 32, 1 << 32, 0},
		{api.Mul, minus(3), 5, minus(15)},
		{17, minus(1), minus(1), 0},
		{17, minus(1), 1, ones},
		{17, 1 << 63, 1 << 63, 1 << 62},
		{18, minus(1), ones, ones},
		{18, 1, ones, 0},
		{18, 1 << 63, 2, ones},
		{19, ones, ones, ones - 1},
		{19, 1 << 63, 2, 1},
		{api.Divu, minus(6), 2, 1<<63 - 3},
		{api.Remu, minus(6), 7, 3},
	} {
		if got := Do(c.f, false, c.a, c.b); got != c.want {
			t.Errorf("Do(%d, %#x, %#x) = %#x, not %#x", c.f, c.a, c.b, got, c.want)
		}
	}
}

// P4.1: what is divided by 0: all ones, and a; the least number by -1: itself, and 0.
func TestDoDividedByNothing(t *testing.T) {
	for _, a := range numbers() {
		for f, want := range map[int]uint64{api.Div: ones, api.Divu: ones, api.Rem: a, api.Remu: a} {
			if got := Do(f, false, a, 0); got != want {
				t.Errorf("Do(%d, %#x, 0) = %#x, not %#x", f, a, got, want)
			}
		}
	}
	for f, want := range map[int]uint64{api.Div: 1 << 63, api.Rem: 0, api.Divu: 0, api.Remu: 1 << 63} {
		if got := Do(f, false, 1<<63, ones); got != want {
			t.Errorf("Do(%d, 2^63, 2^64 - 1) = %#x, not %#x", f, got, want)
		}
	}
}

// P4.1: by how far something is shifted is taken modulo 64.
func TestDoShiftsModulo(t *testing.T) {
	const a = 0x8899aabbccddeeff
	for far := range uint64(200) {
		for _, b := range []uint64{far, far + 1<<32, far + 1<<63, minus(64) + far%64} {
			for f, want := range map[int]uint64{api.Sll: a << (far % 64), api.Srl: a >> (far % 64), api.Sra: ^(^uint64(a) >> (far % 64))} {
				if got := Do(f, false, a, b); got != want {
					t.Errorf("Do(%d, %#x, %#x) = %#x, not %#x", f, uint64(a), b, got, want)
				}
			}
		}
	}
}

// P4.1: each F, held against numbers that have no end.
func TestDo(t *testing.T) {
	for _, f := range sums {
		for _, a := range numbers() {
			for _, b := range numbers() {
				if got, want := Do(f, false, a, b), back(reckoned(f, 64, a, b), 64, true); got != want {
					t.Fatalf("Do(%d, %#x, %#x) = %#x, not %#x", f, a, b, got, want)
				}
			}
		}
	}
}

// P4.1: an F that there is not: 0.
func TestDoNone(t *testing.T) {
	for _, f := range strange() {
		if slices.Contains(sums, f) {
			continue
		}
		for _, word := range []bool{false, true} {
			if got := Do(f, word, 0x0102030405060708, 3); got != 0 {
				t.Errorf("Do(%d, %v) = %#x, not 0", f, word, got)
			}
		}
	}
}

// P4.2: words, as RISC-V's manual tells them.
func TestDoWordExamples(t *testing.T) {
	const least = 0xffffffff80000000
	for _, c := range []one{
		{api.Add, 0x7fffffff, 1, least},
		{api.Add, 0x80000000, 0x80000000, 0},
		{api.Add, 0xdead00000001, 0xbeef00000002, 3},
		{api.Sub, 0, 1, ones},
		{api.Sub, 0x80000000, 1, 0x7fffffff},
		{api.Sll, 1, 31, least},
		{api.Sll, 1, 32, 1},
		{api.Sll, 0xffff00000001, 63, least},
		{api.Srl, least, 4, 0x08000000},
		{api.Srl, least, 0, least},
		{api.Srl, least, 33, 0x40000000},
		{api.Sra, 0x80000000, 4, 0xfffffffff8000000},
		{api.Sra, 0xffffffff40000000, 30, 1},
		{api.Sra, 0x80000000, 63, ones},
		{api.Mul, 0x10000, 0x10000, 0},
		{api.Mul, 0xffffffff, 3, minus(3)},
		{api.Mul, 0x10000, 0x8000, least},
		{api.Div, 0xfffffff9, 2, minus(3)},
		{api.Rem, 0xfffffff9, 2, minus(1)},
		{api.Div, 0x80000000, 0xffffffff, least},
		{api.Rem, 0x80000000, 0xffffffff, 0},
		{api.Div, least, minus(1), least},
		{api.Rem, least, minus(1), 0},
		{api.Divu, 0xffffffff, 1, ones},
		{api.Divu, minus(6), 2, 0x7ffffffd},
		{api.Divu, 0x100000008, 0x300000002, 4},
		{api.Remu, 0xffffffff, 0x80000000, 0x7fffffff},
		{api.Remu, 0xfffffffe, 0xffffffff, minus(2)},
		{api.Div, 5, 0, ones},
		{api.Divu, 5, 0, ones},
		{api.Divu, 5, 1 << 32, ones}, // the lowest 32 bits of it are 0
		{api.Div, 5, 1 << 32, ones},
		{api.Rem, 0x180000005, 7 << 32, 0xffffffff80000005},
		{api.Remu, 0x180000005, 7 << 32, 0xffffffff80000005},
		{api.Remu, 0x7000000005, 0, 5},
	} {
		if got := Do(c.f, true, c.a, c.b); got != c.want {
			t.Errorf("Do(%d, word, %#x, %#x) = %#x, not %#x", c.f, c.a, c.b, got, c.want)
		}
	}
}

// P4.2: each F that there is of words, held against numbers that have no end.
func TestDoWord(t *testing.T) {
	for _, f := range narrow {
		for _, a := range numbers() {
			for _, b := range numbers() {
				if got, want := Do(f, true, a, b), back(reckoned(f, 32, a, b), 32, true); got != want {
					t.Fatalf("Do(%d, word, %#x, %#x) = %#x, not %#x", f, a, b, got, want)
				}
			}
		}
	}
}

// P4.2: by how far a word is shifted is taken modulo 32.
func TestDoWordShiftsModulo(t *testing.T) {
	for far := range uint64(130) {
		for f, want := range map[int]uint64{api.Sll: 1 << (far % 32), api.Srl: 1 << 30 >> (far % 32), api.Sra: 1 << 30 >> (far % 32)} {
			a := uint64(1 << 30)
			if f == api.Sll {
				a = 1
				want = uint64(int64(int32(uint32(want))))
			}
			if got := Do(f, true, a, far+1<<32); got != want {
				t.Errorf("Do(%d, word, %#x, %d) = %#x, not %#x", f, a, far, got, want)
			}
		}
	}
}

// P4.2: what there is not of words: 0.
func TestDoWordNone(t *testing.T) {
	for _, f := range sums {
		if slices.Contains(narrow, f) {
			continue
		}
		for _, a := range numbers() {
			for _, b := range []uint64{0, 1, 5, ones, 1 << 63} {
				if got := Do(f, true, a, b); got != 0 {
					t.Errorf("Do(%d, word, %#x, %#x) = %#x, not 0", f, a, b, got)
				}
			}
		}
	}
}

// P4.3: Cond, by how the two lie, signed and unsigned.
func TestCond(t *testing.T) {
	for _, c := range []struct {
		a, b uint64
		want [8]bool // by f
	}{
		{5, 5, [8]bool{0: true, 5: true, 7: true}},
		{0, 0, [8]bool{0: true, 5: true, 7: true}},
		{ones, ones, [8]bool{0: true, 5: true, 7: true}},
		{1 << 63, 1 << 63, [8]bool{0: true, 5: true, 7: true}},
		{4, 5, [8]bool{1: true, 4: true, 6: true}},
		{5, 4, [8]bool{1: true, 5: true, 7: true}},
		{ones, 0, [8]bool{1: true, 4: true, 7: true}},
		{0, ones, [8]bool{1: true, 5: true, 6: true}},
		{1 << 63, 1<<63 - 1, [8]bool{1: true, 4: true, 7: true}},
		{1<<63 - 1, 1 << 63, [8]bool{1: true, 5: true, 6: true}},
		{minus(2), minus(1), [8]bool{1: true, 4: true, 6: true}},
		{1, 1<<32 + 1, [8]bool{1: true, 4: true, 6: true}},
	} {
		for f, want := range c.want {
			if got := Cond(f, c.a, c.b); got != want {
				t.Errorf("Cond(%d, %#x, %#x) = %v", f, c.a, c.b, got)
			}
		}
	}
}

// P4.3: Cond held against numbers that have no end.
func TestCondAll(t *testing.T) {
	for _, a := range numbers() {
		for _, b := range numbers() {
			signed := whole(a, 64, true).Cmp(whole(b, 64, true))
			unsigned := whole(a, 64, false).Cmp(whole(b, 64, false))
			for f, want := range map[int]bool{0: signed == 0, 1: signed != 0, 4: signed < 0, 5: signed >= 0, 6: unsigned < 0, 7: unsigned >= 0} {
				if got := Cond(f, a, b); got != want {
					t.Fatalf("Cond(%d, %#x, %#x) = %v", f, a, b, got)
				}
			}
		}
	}
}

// P4.3: Cond of an f that there is not: false.
func TestCondNone(t *testing.T) {
	for _, f := range strange() {
		switch f {
		case 0, 1, 4, 5, 6, 7:
			continue
		}
		for _, p := range [][2]uint64{{0, 0}, {1, 2}, {2, 1}, {ones, 1}, {1, ones}} {
			if Cond(f, p[0], p[1]) {
				t.Errorf("Cond(%d, %#x, %#x)", f, p[0], p[1])
			}
		}
	}
}

// P4.3: what memory has then, of eight bytes.
func TestAmoExamples(t *testing.T) {
	for _, c := range []one{
		{0, 5, 7, 12},
		{0, ones, 2, 1},
		{1, 5, 7, 7},
		{4, 0xff00, 0x0ff0, 0xf0f0},
		{8, 0xff00, 0x0ff0, 0xfff0},
		{12, 0xff00, 0x0ff0, 0x0f00},
		{16, ones, 1, ones},
		{16, 1, ones, ones},
		{16, 3, 3, 3},
		{20, ones, 1, 1},
		{20, 1, ones, 1},
		{24, ones, 1, 1},
		{24, 1, ones, 1},
		{28, ones, 1, ones},
		{28, 1, ones, ones},
		{2, 5, 7, 5},
		{3, 5, 7, 5},
	} {
		if got := Amo(c.f, false, c.a, c.b); got != c.want {
			t.Errorf("Amo(%d, %#x, %#x) = %#x, not %#x", c.f, c.a, c.b, got, c.want)
		}
	}
}

// P4.3: what memory has then, of four bytes: of the lowest 32 bits, noughts above.
func TestAmoWordExamples(t *testing.T) {
	for _, c := range []one{
		{0, 0xffffffff, 2, 1},
		{0, 0x7fffffff, 1, 0x80000000},
		{0, 0x900000001, 0x700000001, 2},
		{1, 5, 0x1234567880000007, 0x80000007},
		{1, 5, ones, 0xffffffff},
		{4, ones, 0xf, 0xfffffff0},
		{8, 0x1_00000000, 0x2_80000000, 0x80000000},
		{12, ones, ones, 0xffffffff},
		{16, 0xffffffff, 1, 0xffffffff}, // -1, of words
		{16, 0x80000000, 0x7fffffff, 0x80000000},
		{16, 0x900000001, 2, 1}, // what is above does not count
		{16, 0x7fffffff00000005, 0x80000000_00000003, 3},
		{20, 0xffffffff, 1, 1},
		{20, 0x80000000, 0xffffffff, 0xffffffff},
		{20, 0x900000001, 2, 2},
		{24, 0xffffffff, 1, 1},
		{24, 0x900000001, 2, 1},
		{24, 0x80000000, 0x7fffffff, 0x7fffffff},
		{28, 0xffffffff, 1, 0xffffffff},
		{28, 0x900000001, 2, 2},
		{28, 0x80000000, 0x7fffffff, 0x80000000},
	} {
		if got := Amo(c.f, true, c.a, c.b); got != c.want {
			t.Errorf("Amo(%d, word, %#x, %#x) = %#x, not %#x", c.f, c.a, c.b, got, c.want)
		}
	}
}

// P4.3: each f, held against numbers that have no end.
func TestAmo(t *testing.T) {
	for _, f := range []int{0, 1, 4, 8, 12, 16, 20, 24, 28} {
		for _, old := range numbers() {
			for _, b := range numbers() {
				if got, want := Amo(f, false, old, b), back(stored(f, 64, old, b), 64, false); got != want {
					t.Fatalf("Amo(%d, %#x, %#x) = %#x, not %#x", f, old, b, got, want)
				}
				if got, want := Amo(f, true, old, b), back(stored(f, 32, old, b), 32, false); got != want {
					t.Fatalf("Amo(%d, word, %#x, %#x) = %#x, not %#x", f, old, b, got, want)
				}
			}
		}
	}
}

// P4.3: of an f that there is not, what memory had; of four bytes these alone.
func TestAmoNone(t *testing.T) {
	const old, b = 0x8877665544332211, 0x0102030405060708
	for _, f := range strange() {
		switch f {
		case 0, 1, 4, 8, 12, 16, 20, 24, 28:
			continue
		}
		if got := Amo(f, false, old, b); got != old {
			t.Errorf("Amo(%d) = %#x, not %#x", f, got, uint64(old))
		}
		if got := Amo(f, true, old, b); got != 0x44332211 {
			t.Errorf("Amo(%d, word) = %#x", f, got)
		}
		if got := Amo(f, true, ones, b); got != 0xffffffff {
			t.Errorf("Amo(%d, word, all ones) = %#x", f, got)
		}
	}
}

// P4.4: a is the quotient times b and the rest, modulo 2^64, but by 0; the rest is nearer to 0 than b, with a's sign.
func TestQuotientAndRest(t *testing.T) {
	xs := slices.Concat(numbers(), odd(200))
	for _, a := range xs {
		for _, b := range xs {
			if b == 0 {
				continue
			}
			q, r := Do(api.Div, false, a, b), Do(api.Rem, false, a, b)
			if Do(api.Add, false, Do(api.Mul, false, q, b), r) != a {
				t.Fatalf("%#x by %#x: %#x, the rest %#x", a, b, q, r)
			}
			rest, by := whole(r, 64, true), whole(b, 64, true)
			if rest.CmpAbs(by) >= 0 || rest.Sign() != 0 && rest.Sign() != whole(a, 64, true).Sign() {
				t.Fatalf("%#x by %#x: the rest is %#x", a, b, r)
			}
			q, r = Do(api.Divu, false, a, b), Do(api.Remu, false, a, b)
			if q*b+r != a || r >= b {
				t.Fatalf("unsigned %#x by %#x: %#x, the rest %#x", a, b, q, r)
			}
		}
	}
}

// P4.4: the same of words, where the quotient times b and the rest are a's lowest 32 bits.
func TestQuotientAndRestOfWords(t *testing.T) {
	xs := slices.Concat(numbers(), odd(200))
	for _, a := range xs {
		for _, b := range xs {
			if uint32(b) == 0 {
				continue
			}
			for _, f := range []int{api.Div, api.Divu} {
				q, r := Do(f, true, a, b), Do(f+api.Rem-api.Div, true, a, b)
				if uint32(q*b+r) != uint32(a) {
					t.Fatalf("%d, word: %#x by %#x: %#x, the rest %#x", f, a, b, q, r)
				}
			}
		}
	}
}
