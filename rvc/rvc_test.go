package rvc

import (
	"strconv"
	"strings"
	"testing"
)

// want is what Expand has to answer of a short instruction.
type want struct {
	word uint32
	ok   bool
}

// book holds, for each of sixteen bits, what the chapter's table says of it. It is written the other way round from the program: from registers and immediates to the bits that stand for them.
type book struct {
	t     *testing.T
	wants map[uint16]want
}

// row notes that the row of bits 1-0 and 15-13, with these parts set, stands for word; none says that its last column rules it out.
func (b *book) row(low int, high int, parts int, word uint32, none bool) {
	h := uint16(low | high<<13 | parts)
	if int(h) != low|high<<13|parts || parts&(3|7<<13) != 0 {
		b.t.Fatalf("parts %#x of row %d %d are not parts", parts, low, high)
	}
	if _, twice := b.wants[h]; twice {
		b.t.Fatalf("two rows have %#04x", h)
	}
	if none {
		word = 0
	}
	b.wants[h] = want{word, !none}
}

// lay puts an immediate's bits into h from bit high down, as the chapter writes where they stand: "5:4|9:6|2|3".
func lay(imm int, text string, high int) int {
	h := 0
	for _, part := range strings.Split(text, "|") {
		from, to, ranged := strings.Cut(part, ":")
		if !ranged {
			to = from
		}
		first, _ := strconv.Atoi(from)
		last, _ := strconv.Atoi(to)
		for place := first; place >= last; place-- {
			h |= imm >> place & 1 << high
			high--
		}
	}
	return h
}

// span goes through the immediates from first to last, step by step.
func span(first int, last int, step int, do func(imm int)) {
	for imm := first; imm <= last; imm += step {
		do(imm)
	}
}

// shorts and longs go through the registers of three and of five bits.
func shorts(do func(r int)) { span(8, 15, 1, do) }
func longs(do func(r int))  { span(0, 31, 1, do) }

// at puts a register of three bits to bit low; wide one of five.
func at(r int, low int) int   { return r % 8 << low }
func wide(r int, low int) int { return r << low }

// The instructions of thirty-two bits, by the forms of the RISC-V manual.

func formI(op int, f int, rd int, rs1 int, imm int) uint32 {
	return uint32(imm&0xfff)<<20 | uint32(rs1)<<15 | uint32(f)<<12 | uint32(rd)<<7 | uint32(op)
}

func formR(op int, f int, g int, rd int, rs1 int, rs2 int) uint32 {
	return uint32(g)<<25 | uint32(rs2)<<20 | uint32(rs1)<<15 | uint32(f)<<12 | uint32(rd)<<7 | uint32(op)
}

func formS(f int, rs1 int, rs2 int, imm int) uint32 {
	return uint32(imm>>5&0x7f)<<25 | uint32(rs2)<<20 | uint32(rs1)<<15 | uint32(f)<<12 | uint32(imm&0x1f)<<7 | 0x23
}

func formB(f int, rs1 int, imm int) uint32 {
	x := uint32(imm)
	return x>>12&1<<31 | x>>5&0x3f<<25 | uint32(rs1)<<15 | uint32(f)<<12 | x>>1&0xf<<8 | x>>11&1<<7 | 0x63
}

func formJ(imm int) uint32 {
	x := uint32(imm)
	return x>>20&1<<31 | x>>1&0x3ff<<21 | x>>11&1<<20 | x>>12&0xff<<12 | 0x6f
}

func formU(rd int, imm int) uint32 { return uint32(imm)&^0xfff | uint32(rd)<<7 | 0x37 }

// rowsOf0 notes the rows whose bits 1-0 are 0.
func rowsOf0(b *book) {
	shorts(func(r int) {
		span(0, 1020, 4, func(imm int) {
			b.row(0, 0, at(r, 2)|lay(imm, "5:4|9:6|2|3", 12), formI(0x13, 0, r, 2, imm), imm == 0)
		})
		shorts(func(rs1 int) {
			span(0, 124, 4, func(imm int) {
				parts := at(r, 2) | at(rs1, 7) | lay(imm, "5:3", 12) | lay(imm, "2|6", 6)
				b.row(0, 2, parts, formI(0x03, 2, r, rs1, imm), false)
				b.row(0, 6, parts, formS(2, rs1, r, imm), false)
			})
			span(0, 248, 8, func(imm int) {
				parts := at(r, 2) | at(rs1, 7) | lay(imm, "5:3", 12) | lay(imm, "7:6", 6)
				b.row(0, 3, parts, formI(0x03, 3, r, rs1, imm), false)
				b.row(0, 7, parts, formS(3, rs1, r, imm), false)
			})
		})
	})
}

// rowsOf1 notes the rows whose bits 1-0 are 1, but that of bits 15-13 4.
func rowsOf1(b *book) {
	longs(func(rd int) {
		span(-32, 31, 1, func(imm int) {
			parts := wide(rd, 7) | lay(imm, "5", 12) | lay(imm, "4:0", 6)
			b.row(1, 0, parts, formI(0x13, 0, rd, rd, imm), false)
			b.row(1, 1, parts, formI(0x1b, 0, rd, rd, imm), rd == 0)
			b.row(1, 2, parts, formI(0x13, 0, rd, 0, imm), false)
			if rd != 2 {
				up := imm * 4096
				b.row(1, 3, wide(rd, 7)|lay(up, "17", 12)|lay(up, "16:12", 6), formU(rd, up), up == 0)
			}
		})
	})
	span(-512, 496, 16, func(imm int) {
		b.row(1, 3, wide(2, 7)|lay(imm, "9", 12)|lay(imm, "4|6|8:7|5", 6), formI(0x13, 0, 2, 2, imm), imm == 0)
	})
	span(-2048, 2046, 2, func(imm int) {
		b.row(1, 5, lay(imm, "11|4|9:8|10|6|7|3:1|5", 12), formJ(imm), false)
	})
	shorts(func(rs1 int) {
		span(-256, 254, 2, func(imm int) {
			parts := at(rs1, 7) | lay(imm, "8|4:3", 12) | lay(imm, "7:6|2:1|5", 6)
			b.row(1, 6, parts, formB(0, rs1, imm), false)
			b.row(1, 7, parts, formB(1, rs1, imm), false)
		})
	})
}

// rowsOfReckoning notes the row of bits 1-0 1 and bits 15-13 4.
func rowsOfReckoning(b *book) {
	shorts(func(rd int) {
		span(0, 63, 1, func(imm int) {
			parts := at(rd, 7) | lay(imm, "5", 12) | lay(imm, "4:0", 6)
			b.row(1, 4, parts, formI(0x13, 5, rd, rd, imm), false)
			b.row(1, 4, parts|1<<10, formI(0x13, 5, rd, rd, imm|0x400), false)
			b.row(1, 4, parts|2<<10, formI(0x13, 7, rd, rd, (imm^32)-32), false)
		})
		shorts(func(rs2 int) {
			two := func(which int, op int, f int, g int, none bool) {
				parts := 3<<10 | which>>2<<12 | which&3<<5
				b.row(1, 4, at(rd, 7)|at(rs2, 2)|parts, formR(op, f, g, rd, rd, rs2), none)
			}
			two(0, 0x33, 0, 32, false)
			two(1, 0x33, 4, 0, false)
			two(2, 0x33, 6, 0, false)
			two(3, 0x33, 7, 0, false)
			two(4, 0x3b, 0, 32, false)
			two(5, 0x3b, 0, 0, false)
			two(6, 0, 0, 0, true)
			two(7, 0, 0, 0, true)
		})
	})
}

// rowsOf2 notes the rows whose bits 1-0 are 2.
func rowsOf2(b *book) {
	longs(func(r int) {
		span(0, 63, 1, func(imm int) {
			b.row(2, 0, wide(r, 7)|lay(imm, "5", 12)|lay(imm, "4:0", 6), formI(0x13, 1, r, r, imm), false)
		})
		span(0, 252, 4, func(imm int) {
			b.row(2, 2, wide(r, 7)|lay(imm, "5", 12)|lay(imm, "4:2|7:6", 6), formI(0x03, 2, r, 2, imm), r == 0)
			b.row(2, 6, wide(r, 2)|lay(imm, "5:2|7:6", 12), formS(2, 2, r, imm), false)
		})
		span(0, 504, 8, func(imm int) {
			b.row(2, 3, wide(r, 7)|lay(imm, "5", 12)|lay(imm, "4:3|8:6", 6), formI(0x03, 3, r, 2, imm), r == 0)
			b.row(2, 7, wide(r, 2)|lay(imm, "5:3|8:6", 12), formS(3, 2, r, imm), false)
		})
		longs(func(rs2 int) {
			if rs2 != 0 {
				parts := wide(r, 7) | wide(rs2, 2)
				b.row(2, 4, parts, formR(0x33, 0, 0, r, 0, rs2), false)
				b.row(2, 4, parts|1<<12, formR(0x33, 0, 0, r, r, rs2), false)
			}
		})
		b.row(2, 4, wide(r, 7), formI(0x67, 0, 0, r, 0), r == 0)
		if r != 0 {
			b.row(2, 4, wide(r, 7)|1<<12, formI(0x67, 0, 1, r, 0), false)
		}
	})
	b.row(2, 4, 1<<12, 0x00100073, false)
}

// table answers the whole of the chapter's table.
func table(t *testing.T) map[uint16]want {
	b := &book{t, map[uint16]want{}}
	rowsOf0(b)
	rowsOf1(b)
	rowsOfReckoning(b)
	rowsOf2(b)
	return b.wants
}

// P2.1: Expand of all sixteen bits that there are; what no row has stands for nothing.
func TestExpandAll(t *testing.T) {
	wants := table(t)
	for i := range 1 << 16 {
		h := uint16(i)
		if word, ok := Expand(h); word != wants[h].word || ok != wants[h].ok {
			t.Errorf("Expand(%#04x) = %#08x, %v, not %#08x, %v", h, word, ok, wants[h].word, wants[h].ok)
		}
	}
}

// examples are instructions of each row, and their immediates' ends, as an assembler of RISC-V writes both forms.
var examples = []struct {
	h    uint16
	word uint32
}{
	{0x0001, 0x00000013}, // addi x0, x0, 0
	{0x0808, 0x01010513}, // addi x10, x2, 16
	{0x0040, 0x00410413}, // addi x8, x2, 4
	{0x0020, 0x00810413}, // addi x8, x2, 8
	{0x1ffc, 0x3fc10793}, // addi x15, x2, 1020
	{0x4080, 0x0004a403}, // lw x8, 0(x9)
	{0x5dfc, 0x07c5a783}, // lw x15, 124(x11)
	{0x6408, 0x00843503}, // ld x10, 8(x8)
	{0x7dfc, 0x0f85b783}, // ld x15, 248(x11)
	{0xc080, 0x0084a023}, // sw x8, 0(x9)
	{0xdfe0, 0x0687ae23}, // sw x8, 124(x15)
	{0xffe0, 0x0e87bc23}, // sd x8, 248(x15)
	{0x0005, 0x00100013}, // addi x0, x0, 1
	{0x1501, 0xfe050513}, // addi x10, x10, -32
	{0x157d, 0xfff50513}, // addi x10, x10, -1
	{0x057d, 0x01f50513}, // addi x10, x10, 31
	{0x2501, 0x0005051b}, // addiw x10, x10, 0
	{0x357d, 0xfff5051b}, // addiw x10, x10, -1
	{0x5f01, 0xfe000f13}, // addi x30, x0, -32
	{0x4001, 0x00000013}, // addi x0, x0, 0
	{0x7101, 0xe0010113}, // addi x2, x2, -512
	{0x617d, 0x1f010113}, // addi x2, x2, 496
	{0x6505, 0x00001537}, // lui x10, 1
	{0x7501, 0xfffe0537}, // lui x10, 0xfffe0
	{0x6005, 0x00001037}, // lui x0, 1
	{0x8001, 0x00045413}, // srli x8, x8, 0
	{0x93fd, 0x03f7d793}, // srli x15, x15, 63
	{0x8401, 0x40045413}, // srai x8, x8, 0
	{0x97fd, 0x43f7d793}, // srai x15, x15, 63
	{0x9801, 0xfe047413}, // andi x8, x8, -32
	{0x8bfd, 0x01f7f793}, // andi x15, x15, 31
	{0x8c05, 0x40940433}, // sub x8, x8, x9
	{0x8c25, 0x00944433}, // xor x8, x8, x9
	{0x8c45, 0x00946433}, // or x8, x8, x9
	{0x8c65, 0x00947433}, // and x8, x8, x9
	{0x9c05, 0x4094043b}, // subw x8, x8, x9
	{0x9c25, 0x0094043b}, // addw x8, x8, x9
	{0xa001, 0x0000006f}, // jal x0, 0
	{0xb001, 0x801ff06f}, // jal x0, -2048, whose bit 11 is its sign's
	{0xaffd, 0x7fe0006f}, // jal x0, 2046
	{0xbffd, 0xfffff06f}, // jal x0, -2
	{0xc001, 0x00040063}, // beq x8, x0, 0
	{0xd381, 0xf00780e3}, // beq x15, x0, -256
	{0xeffd, 0x0e079f63}, // bne x15, x0, 254
	{0x0002, 0x00001013}, // slli x0, x0, 0
	{0x157e, 0x03f51513}, // slli x10, x10, 63
	{0x4502, 0x00012503}, // lw x10, 0(x2)
	{0x5ffe, 0x0fc12f83}, // lw x31, 252(x2)
	{0x6082, 0x00013083}, // ld x1, 0(x2)
	{0x7ffe, 0x1f813f83}, // ld x31, 504(x2)
	{0x8082, 0x00008067}, // jalr x0, 0(x1)
	{0x852e, 0x00b00533}, // add x10, x0, x11
	{0x8006, 0x00100033}, // add x0, x0, x1
	{0x9002, 0x00100073}, // ebreak
	{0x9502, 0x000500e7}, // jalr x1, 0(x10)
	{0x952e, 0x00b50533}, // add x10, x10, x11
	{0x9006, 0x00100033}, // add x0, x0, x1
	{0xc002, 0x00012023}, // sw x0, 0(x2)
	{0xdffe, 0x0ff12e23}, // sw x31, 252(x2)
	{0xfffe, 0x1ff13c23}, // sd x31, 504(x2)
}

// P2.1: the examples.
func TestExpandExamples(t *testing.T) {
	for _, c := range examples {
		if word, ok := Expand(c.h); word != c.word || !ok {
			t.Errorf("Expand(%#04x) = %#08x, %v, not %#08x", c.h, word, ok, c.word)
		}
	}
}

// P2.1 and R6: what stands for nothing, and what is no short instruction: 0, false.
func TestExpandNone(t *testing.T) {
	for _, h := range []uint16{
		0x0000,         // addi rd', x2 of 0
		0x001c,         // likewise, of another rd'
		0x2000, 0x3ffc, // bits 15-13 1: floating point
		0x8000, 0x9ffc, // bits 15-13 4
		0xa000, 0xbffc, // bits 15-13 5
		0x2001, 0x307d, // addiw of rd 0
		0x6101,                 // addi x2, x2 of 0
		0x6001, 0x6501, 0x6f81, // lui of 0
		0x9c41, 0x9c61, 0x9fdd, 0x9ffd, // bits 12 and 6-5 6 and 7
		0x2002, 0x3ffe, // bits 15-13 1
		0x4002, 0x507e, // lw x0
		0x6002, 0x707e, // ld x0
		0x8002,         // jalr x0, 0(x0)
		0xa002, 0xbffe, // bits 15-13 5
		0x0003, 0x0013, 0x8067, 0xffff, // of thirty-two bits
	} {
		if word, ok := Expand(h); word != 0 || ok {
			t.Errorf("Expand(%#04x) = %#08x, %v, not 0, false", h, word, ok)
		}
	}
}

// P2.1: Short of all sixteen bits; Expand has none of those that are not.
func TestShort(t *testing.T) {
	for i := range 1 << 16 {
		h := uint16(i)
		short := i%4 < 3
		if Short(h) != short {
			t.Errorf("Short(%#04x) = %v", h, !short)
		}
		if word, ok := Expand(h); !short && (word != 0 || ok) {
			t.Errorf("Expand(%#04x) = %#08x, %v, but it is not short", h, word, ok)
		}
	}
}

// decodes tells whether layer 3's chapter has a row for w.
func decodes(w uint32) bool {
	f, g, rs1 := w>>12&7, w>>25, w>>15&31
	switch w & 0x7f {
	case 0x37, 0x6f:
		return true
	case 0x67:
		return f == 0 && rs1 != 0
	case 0x63:
		return f < 2
	case 0x03:
		return f < 7
	case 0x23:
		return f < 4
	case 0x13:
		shift := w >> 26
		return f != 1 && f != 5 || shift == 0 || f == 5 && shift == 16
	case 0x1b:
		return f == 0
	case 0x33:
		return g <= 1 || g == 32 && (f == 0 || f == 5)
	case 0x3b:
		return f == 0 && (g == 0 || g == 32)
	case 0x73:
		return w == 0x00100073
	}
	return false
}

// P2.2: what is expanded is no short one, and has a row of layer 3.
func TestExpandedIsWhole(t *testing.T) {
	some := 0
	for i := range 1 << 16 {
		word, ok := Expand(uint16(i))
		if !ok {
			continue
		}
		some++
		if Short(uint16(word)) {
			t.Errorf("Expand(%#04x) = %#08x, a short one", i, word)
		}
		if !decodes(word) {
			t.Errorf("Expand(%#04x) = %#08x, which layer 3 has not", i, word)
		}
		if _, again := Expand(uint16(word)); again {
			t.Errorf("Expand of %#08x, which came of %#04x, is something", word, i)
		}
	}
	if some == 0 {
		t.Error("nothing is expanded")
	}
}
