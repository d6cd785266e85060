package decode

import (
	"math"
	"testing"

	"drawbridge/api"
	"drawbridge/rvc"
)

// P3.1: words of each row, each bit of what may be another in its place.
func TestDecodeRows(t *testing.T) {
	for _, r := range chapter() {
		for _, w := range r.words() {
			if got, ok := Decode(w); got != r.take(w) || !ok {
				t.Fatalf("Decode(%#08x) = %+v, %v, not %+v", w, got, ok, r.take(w))
			}
		}
	}
}

// P3.1: whatever stands in bits 6-0, 14-12 and 31-25, with registers of 0 and others; what no row has is none.
func TestDecodeAllHeads(t *testing.T) {
	ops := byOp(chapter())
	registers := []uint32{0, 1 << 7, 31 << 7, 1 << 15, 31 << 15, 1 << 20, 2 << 20, 5 << 20, 16 << 20, 31 << 20, 31<<20 | 31<<15 | 31<<7}
	for head := range uint32(1 << 17) {
		w := head&0x7f | head>>7&7<<12 | head>>10<<25
		for _, regs := range registers {
			want, is := decoded(ops[w&0x7f], w|regs)
			if got, ok := Decode(w | regs); got != want || ok != is {
				t.Fatalf("Decode(%#08x) = %+v, %v, not %+v, %v", w|regs, got, ok, want, is)
			}
		}
	}
}

// made is an instruction on all 64 bits; onWord one on 32.
func made(class api.Class, f int, rd int, rs1 int, rs2 int, imm int64) api.Ins {
	return api.Ins{Class: class, F: f, Rd: rd, Rs1: rs1, Rs2: rs2, Imm: uint64(imm)}
}

func onWord(class api.Class, f int, rd int, rs1 int, rs2 int, imm int64) api.Ins {
	i := made(class, f, rd, rs1, rs2, imm)
	i.Word = true
	return i
}

// examples are instructions as an assembler of RISC-V writes them, and their immediates' ends.
var examples = []struct {
	w uint32
	i api.Ins
}{
	{0x000010b7, made(api.Lui, 0, 1, 0, 0, 0x1000)},           // lui x1, 1
	{0x80000fb7, made(api.Lui, 0, 31, 0, 0, math.MinInt32)},   // lui x31, 0x80000
	{0x7ffff537, made(api.Lui, 0, 10, 0, 0, 0x7ffff000)},      // lui x10, 0x7ffff
	{0xfffff537, made(api.Lui, 0, 10, 0, 0, -4096)},           // lui x10, 0xfffff
	{0x12345117, made(api.Auipc, 0, 2, 0, 0, 0x12345000)},     // auipc x2, 0x12345
	{0xedcba117, made(api.Auipc, 0, 2, 0, 0, -0x12346000)},    // auipc x2, 0xedcba
	{0x001000ef, made(api.Jal, 0, 1, 0, 0, 2048)},             // jal x1, 2048
	{0xfffff06f, made(api.Jal, 0, 0, 0, 0, -2)},               // jal x0, -2
	{0x7ffff06f, made(api.Jal, 0, 0, 0, 0, 1048574)},          // jal x0, 1048574
	{0x80000fef, made(api.Jal, 0, 31, 0, 0, -1048576)},        // jal x31, -1048576
	{0xfff100e7, made(api.Jalr, 0, 1, 2, 0, -1)},              // jalr x1, -1(x2)
	{0x7ff08067, made(api.Jalr, 0, 0, 1, 0, 2047)},            // jalr x0, 2047(x1)
	{0x800f8067, made(api.Jalr, 0, 0, 31, 0, -2048)},          // jalr x0, -2048(x31)
	{0x00208463, made(api.Branch, 0, 0, 1, 2, 8)},             // beq x1, x2, 8
	{0xfe419fe3, made(api.Branch, 1, 0, 3, 4, -2)},            // bne x3, x4, -2
	{0x7e62cfe3, made(api.Branch, 4, 0, 5, 6, 4094)},          // blt x5, x6, 4094
	{0x8083d063, made(api.Branch, 5, 0, 7, 8, -4096)},         // bge x7, x8, -4096
	{0x01ff60e3, made(api.Branch, 6, 0, 30, 31, 2048)},        // bltu x30, x31, 2048
	{0x00a4ff63, made(api.Branch, 7, 0, 9, 10, 30)},           // bgeu x9, x10, 30
	{0xfff10083, made(api.Load, 0, 1, 2, 0, -1)},              // lb x1, -1(x2)
	{0x7ff11083, made(api.Load, 1, 1, 2, 0, 2047)},            // lh x1, 2047(x2)
	{0x80012083, made(api.Load, 2, 1, 2, 0, -2048)},           // lw x1, -2048(x2)
	{0x008f3f83, made(api.Load, 3, 31, 30, 0, 8)},             // ld x31, 8(x30)
	{0x00014083, made(api.Load, 4, 1, 2, 0, 0)},               // lbu x1, 0(x2)
	{0x00115083, made(api.Load, 5, 1, 2, 0, 1)},               // lhu x1, 1(x2)
	{0x00416083, made(api.Load, 6, 1, 2, 0, 4)},               // lwu x1, 4(x2)
	{0xfe110fa3, made(api.Store, 0, 0, 2, 1, -1)},             // sb x1, -1(x2)
	{0x7e321fa3, made(api.Store, 1, 0, 4, 3, 2047)},           // sh x3, 2047(x4)
	{0x80532023, made(api.Store, 2, 0, 6, 5, -2048)},          // sw x5, -2048(x6)
	{0x03ff3423, made(api.Store, 3, 0, 30, 31, 40)},           // sd x31, 40(x30)
	{0x00500093, made(api.AluImm, api.Add, 1, 0, 0, 5)},       // addi x1, x0, 5
	{0x80010093, made(api.AluImm, api.Add, 1, 2, 0, -2048)},   // addi x1, x2, -2048
	{0x7ff12093, made(api.AluImm, api.Slt, 1, 2, 0, 2047)},    // slti x1, x2, 2047
	{0xfff13093, made(api.AluImm, api.Sltu, 1, 2, 0, -1)},     // sltiu x1, x2, -1
	{0xfff14093, made(api.AluImm, api.Xor, 1, 2, 0, -1)},      // xori x1, x2, -1
	{0x55516093, made(api.AluImm, api.Or, 1, 2, 0, 0x555)},    // ori x1, x2, 0x555
	{0x2aaf7f93, made(api.AluImm, api.And, 31, 30, 0, 0x2aa)}, // andi x31, x30, 0x2aa
	{0x00011093, made(api.AluImm, api.Sll, 1, 2, 0, 0)},       // slli x1, x2, 0
	{0x03f11093, made(api.AluImm, api.Sll, 1, 2, 0, 63)},      // slli x1, x2, 63
	{0x02015093, made(api.AluImm, api.Srl, 1, 2, 0, 32)},      // srli x1, x2, 32
	{0x03f15093, made(api.AluImm, api.Srl, 1, 2, 0, 63)},      // srli x1, x2, 63
	{0x40015093, made(api.AluImm, api.Sra, 1, 2, 0, 0)},       // srai x1, x2, 0
	{0x43f15093, made(api.AluImm, api.Sra, 1, 2, 0, 63)},      // srai x1, x2, 63
	{0xfff1009b, onWord(api.AluImm, api.Add, 1, 2, 0, -1)},    // addiw x1, x2, -1
	{0x7ff1009b, onWord(api.AluImm, api.Add, 1, 2, 0, 2047)},  // addiw x1, x2, 2047
	{0x01f1109b, onWord(api.AluImm, api.Sll, 1, 2, 0, 31)},    // slliw x1, x2, 31
	{0x0101509b, onWord(api.AluImm, api.Srl, 1, 2, 0, 16)},    // srliw x1, x2, 16
	{0x41f1509b, onWord(api.AluImm, api.Sra, 1, 2, 0, 31)},    // sraiw x1, x2, 31
	{0x4001509b, onWord(api.AluImm, api.Sra, 1, 2, 0, 0)},     // sraiw x1, x2, 0
	{0x003100b3, made(api.Alu, api.Add, 1, 2, 3, 0)},          // add x1, x2, x3
	{0x403100b3, made(api.Alu, api.Sub, 1, 2, 3, 0)},          // sub x1, x2, x3
	{0x00629233, made(api.Alu, api.Sll, 4, 5, 6, 0)},          // sll x4, x5, x6
	{0x009423b3, made(api.Alu, api.Slt, 7, 8, 9, 0)},          // slt x7, x8, x9
	{0x00c5b533, made(api.Alu, api.Sltu, 10, 11, 12, 0)},      // sltu x10, x11, x12
	{0x00f746b3, made(api.Alu, api.Xor, 13, 14, 15, 0)},       // xor x13, x14, x15
	{0x0128d833, made(api.Alu, api.Srl, 16, 17, 18, 0)},       // srl x16, x17, x18
	{0x415a59b3, made(api.Alu, api.Sra, 19, 20, 21, 0)},       // sra x19, x20, x21
	{0x018beb33, made(api.Alu, api.Or, 22, 23, 24, 0)},        // or x22, x23, x24
	{0x01bd7cb3, made(api.Alu, api.And, 25, 26, 27, 0)},       // and x25, x26, x27
	{0x03ee8e33, made(api.Alu, api.Mul, 28, 29, 30, 0)},       // mul x28, x29, x30
	{0x02101fb3, made(api.Alu, 17, 31, 0, 1, 0)},              // mulh x31, x0, x1
	{0x023120b3, made(api.Alu, 18, 1, 2, 3, 0)},               // mulhsu x1, x2, x3
	{0x023130b3, made(api.Alu, 19, 1, 2, 3, 0)},               // mulhu x1, x2, x3
	{0x023140b3, made(api.Alu, api.Div, 1, 2, 3, 0)},          // div x1, x2, x3
	{0x023150b3, made(api.Alu, api.Divu, 1, 2, 3, 0)},         // divu x1, x2, x3
	{0x023160b3, made(api.Alu, api.Rem, 1, 2, 3, 0)},          // rem x1, x2, x3
	{0x023170b3, made(api.Alu, api.Remu, 1, 2, 3, 0)},         // remu x1, x2, x3
	{0x003100bb, onWord(api.Alu, api.Add, 1, 2, 3, 0)},        // addw x1, x2, x3
	{0x403100bb, onWord(api.Alu, api.Sub, 1, 2, 3, 0)},        // subw x1, x2, x3
	{0x003110bb, onWord(api.Alu, api.Sll, 1, 2, 3, 0)},        // sllw x1, x2, x3
	{0x003150bb, onWord(api.Alu, api.Srl, 1, 2, 3, 0)},        // srlw x1, x2, x3
	{0x403150bb, onWord(api.Alu, api.Sra, 1, 2, 3, 0)},        // sraw x1, x2, x3
	{0x023100bb, onWord(api.Alu, api.Mul, 1, 2, 3, 0)},        // mulw x1, x2, x3
	{0x023140bb, onWord(api.Alu, api.Div, 1, 2, 3, 0)},        // divw x1, x2, x3
	{0x023150bb, onWord(api.Alu, api.Divu, 1, 2, 3, 0)},       // divuw x1, x2, x3
	{0x023160bb, onWord(api.Alu, api.Rem, 1, 2, 3, 0)},        // remw x1, x2, x3
	{0x023170bb, onWord(api.Alu, api.Remu, 1, 2, 3, 0)},       // remuw x1, x2, x3
	{0x0000000f, made(api.Fence, 0, 0, 0, 0, 0)},              // fence of nothing
	{0x0000100f, made(api.Fence, 1, 0, 0, 0, 0)},              // fence.i
	{0x00000073, made(api.System, api.Ecall, 0, 0, 0, 0)},     // ecall
	{0x00100073, made(api.System, api.Ebreak, 0, 0, 0, 0)},    // ebreak
	{0x10200073, made(api.System, api.Sret, 0, 0, 0, 0)},      // sret
	{0x30200073, made(api.System, api.Mret, 0, 0, 0, 0)},      // mret
	{0x10500073, made(api.System, api.Wfi, 0, 0, 0, 0)},       // wfi
	{0x12000073, made(api.System, api.Sfence, 0, 0, 0, 0)},    // sfence.vma x0, x0
	{0x12208073, made(api.System, api.Sfence, 0, 1, 2, 0)},    // sfence.vma x1, x2
	{0x13ff8073, made(api.System, api.Sfence, 0, 31, 31, 0)},  // sfence.vma x31, x31
	{0x300110f3, made(api.Csr, 1, 1, 2, 0, 0x300)},            // csrrw x1, 0x300, x2
	{0xfff020f3, made(api.Csr, 2, 1, 0, 0, 0xfff)},            // csrrs x1, 0xfff, x0
	{0x0001b073, made(api.Csr, 3, 0, 3, 0, 0)},                // csrrc x0, 0x000, x3
	{0xc00fd0f3, made(api.Csr, 5, 1, 31, 0, 0xc00)},           // csrrwi x1, 0xc00, 31
	{0x8000e0f3, made(api.Csr, 6, 1, 1, 0, 0x800)},            // csrrsi x1, 0x800, 1
	{0x7ff070f3, made(api.Csr, 7, 1, 0, 0, 0x7ff)},            // csrrci x1, 0x7ff, 0
	{0x100120af, onWord(api.Amo, 2, 1, 2, 0, 0)},              // lr.w x1, (x2)
	{0x100130af, made(api.Amo, 2, 1, 2, 0, 0)},                // lr.d x1, (x2)
	{0x183120af, onWord(api.Amo, 3, 1, 2, 3, 0)},              // sc.w x1, x3, (x2)
	{0x183130af, made(api.Amo, 3, 1, 2, 3, 0)},                // sc.d x1, x3, (x2)
	{0x083120af, onWord(api.Amo, 1, 1, 2, 3, 0)},              // amoswap.w x1, x3, (x2)
	{0x003130af, made(api.Amo, 0, 1, 2, 3, 0)},                // amoadd.d x1, x3, (x2)
	{0x203120af, onWord(api.Amo, 4, 1, 2, 3, 0)},              // amoxor.w x1, x3, (x2)
	{0x403130af, made(api.Amo, 8, 1, 2, 3, 0)},                // amoor.d x1, x3, (x2)
	{0x603120af, onWord(api.Amo, 12, 1, 2, 3, 0)},             // amoand.w x1, x3, (x2)
	{0x803130af, made(api.Amo, 16, 1, 2, 3, 0)},               // amomin.d x1, x3, (x2)
	{0xa03120af, onWord(api.Amo, 20, 1, 2, 3, 0)},             // amomax.w x1, x3, (x2)
	{0xc03130af, made(api.Amo, 24, 1, 2, 3, 0)},               // amominu.d x1, x3, (x2)
	{0xe03120af, onWord(api.Amo, 28, 1, 2, 3, 0)},             // amomaxu.w x1, x3, (x2)
}

// P3.1 and P3.2: the examples, taken apart and put together.
func TestExamples(t *testing.T) {
	for _, c := range examples {
		if got, ok := Decode(c.w); got != c.i || !ok {
			t.Errorf("Decode(%#08x) = %+v, %v, not %+v", c.w, got, ok, c.i)
		}
		if got, ok := Encode(c.i); got != c.w || !ok {
			t.Errorf("Encode(%+v) = %#08x, %v, not %#08x", c.i, got, ok, c.w)
		}
	}
}

// P3.1 and R6: words of no row: zero, false.
func TestDecodeNone(t *testing.T) {
	for _, w := range []uint32{
		0x00000000, 0xffffffff, 0x00000001, 0x00000002, 0x00000007, 0x0000007f,
		0x00001067, 0x00007067, // jalr of another f
		0x00002063, 0x00003063, // a branch of f 2 and 3
		0x00007003,             // a load of f 7
		0x00004023, 0x00007023, // a store of f 4 and 7
		0x04011093, 0x40011093, 0x80011093, // slli with one of bits 31-26
		0x04015093, 0x44015093, 0x80015093, 0xc0015093, // srli and srai likewise
		0x0201109b, 0x4001109b, 0x0201509b, 0x4201509b, // shifts on 32 bits, of bit 25 and others
		0x0001209b, 0x0001309b, 0x0001409b, 0x0001609b, 0x0001709b, // on 32 bits there is addi alone
		0x403110b3, 0x403120b3, 0x403170b3, // g 32 of f 1, 2, 7
		0x043100b3, 0x423100b3, 0x803100b3, 0xfe3100b3, // g 2, 33, 64, 127
		0x003120bb, 0x003130bb, 0x003140bb, 0x003160bb, 0x003170bb, // on 32 bits, of g 0
		0x403110bb, 0x403140bb, 0x023110bb, 0x023120bb, 0x023130bb, // of g 32 and 1
		0x0000200f, 0x0000700f, // a fence of f 2 and 7
		0x00200073, 0x00000173, 0x00008073, 0x10300073, 0x10200173, 0x30208073, 0x105000f3, 0x10600073,
		0x120000f3, 0x12000873, // sfence with rd
		0x10008073, 0x14000073, 0x92000073, // g 8, 10, 73
		0x00004073, 0x30014073, // a control register with f 4
		0x000100af, 0x000110af, 0x000140af, 0x000170af, // in memory at once, of f 0, 1, 4, 7
		0x280120af, 0x300120af, 0x380120af, 0x480120af, 0xf80120af, // bits 31-27 5, 6, 7, 9, 31
		0x101120af, 0x110130af, 0x11f120af, // lr with rs2
	} {
		if got, ok := Decode(w); ok || got != (api.Ins{}) {
			t.Errorf("Decode(%#08x) = %+v, %v, not zero, false", w, got, ok)
		}
	}
}

// P3.1: bits that are not looked at: of a fence all but bits 14-12, of what is done in memory at once bits 26 and 25.
func TestDecodeLooksAway(t *testing.T) {
	for _, c := range [][2]uint32{
		{0x0000000f, 0x0ff0000f}, {0x0000000f, 0xffff8f8f}, {0x0000100f, 0xffff9f8f},
		{0x083120af, 0x0a3120af}, {0x083120af, 0x0c3120af}, {0x083120af, 0x0e3120af},
		{0x100130af, 0x160130af},
	} {
		bare, is := Decode(c[0])
		if got, ok := Decode(c[1]); got != bare || !ok || !is {
			t.Errorf("Decode(%#08x) = %+v, %v; of %#08x %+v, %v", c[1], got, ok, c[0], bare, is)
		}
		if got, ok := Encode(bare); got != c[0] || !ok {
			t.Errorf("Encode of Decode(%#08x) = %#08x, %v, not %#08x", c[1], got, ok, c[0])
		}
	}
}

// P2.2: what layer 2 expands is decoded.
func TestDecodesWhatIsExpanded(t *testing.T) {
	for h := range 1 << 16 {
		w, short := rvc.Expand(uint16(h))
		if !short {
			continue
		}
		i, ok := Decode(w)
		if !ok {
			t.Errorf("Expand(%#04x) = %#08x, which Decode has not", h, w)
		}
		if back, ok := Encode(i); back != w || !ok {
			t.Errorf("Encode of Decode(%#08x) = %#08x, %v", w, back, ok)
		}
	}
}
