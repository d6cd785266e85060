package decode

import (
	"drawbridge/api"
	"drawbridge/bits"
)

// run says that bits high to low of a word are an immediate's from place on.
type run struct {
	high  int
	low   int
	place int
}

// shape is which parts of a word a row names. Decode and Encode both go by it, so that neither can lay a bit where the other does not look.
type shape struct {
	rd   bool
	rs1  bool
	rs2  bool
	runs []run
	wide int // bits of the immediate, the highest of which is its sign
}

// unsigned is the width of immediates without a sign: of 64 bits there is nothing above that a sign could be put into.
const unsigned = 64

// shapeOf answers the shape of the instructions of i's class, F and Word; of what is none any.
func shapeOf(i api.Ins) shape {
	switch i.Class {
	case api.Lui, api.Auipc:
		return shape{rd: true, runs: []run{{31, 12, 12}}, wide: 32}
	case api.Jal:
		return shape{rd: true, runs: []run{{31, 31, 20}, {30, 21, 1}, {20, 20, 11}, {19, 12, 12}}, wide: 21}
	case api.Branch:
		return shape{rs1: true, rs2: true, runs: []run{{31, 31, 12}, {30, 25, 5}, {11, 8, 1}, {7, 7, 11}}, wide: 13}
	case api.Store:
		return shape{rs1: true, rs2: true, runs: []run{{31, 25, 5}, {11, 7, 0}}, wide: 12}
	case api.Jalr, api.Load:
		return twelve(12)
	case api.AluImm:
		return immShape(i)
	case api.Csr:
		return twelve(unsigned)
	case api.Alu, api.Amo:
		return shape{rd: true, rs1: true, rs2: true}
	case api.System:
		return shape{rs1: i.F == api.Sfence, rs2: i.F == api.Sfence}
	}
	return shape{}
}

// twelve is the shape with an immediate in bits 31-20.
func twelve(wide int) shape {
	return shape{rd: true, rs1: true, runs: []run{{31, 20, 0}}, wide: wide}
}

// immShape is the shape of what reckons with an immediate. By how many places something is shifted has no sign; on 32 bits bit 25, which is its highest, is a nought in each such word.
func immShape(i api.Ins) shape {
	switch i.F {
	case api.Sll, api.Srl, api.Sra:
		return shape{rd: true, rs1: true, runs: []run{{25, 20, 0}}, wide: unsigned}
	}
	return twelve(12)
}

// fill answers i with the registers and the immediate that s names.
func (s shape) fill(i api.Ins, part parts) api.Ins {
	if s.rd {
		i.Rd = int(part(11, 7))
	}
	if s.rs1 {
		i.Rs1 = int(part(19, 15))
	}
	if s.rs2 {
		i.Rs2 = int(part(24, 20))
	}
	for _, r := range s.runs {
		i.Imm |= part(r.high, r.low) << r.place
	}
	i.Imm = bits.Sext(i.Imm, s.wide)
	return i
}

// spread answers the bits of i's registers and immediate, where s has them; what is too great for its place is cut.
func (s shape) spread(i api.Ins) uint64 {
	w := uint64(0)
	if s.rd {
		w |= lowest(i.Rd, 5) << 7
	}
	if s.rs1 {
		w |= lowest(i.Rs1, 5) << 15
	}
	if s.rs2 {
		w |= lowest(i.Rs2, 5) << 20
	}
	for _, r := range s.runs {
		w |= bits.Field(i.Imm, r.place+r.high-r.low, r.place) << r.low
	}
	return w
}

// lowest answers the n lowest bits of x.
func lowest(x int, n int) uint64 { return bits.Field(uint64(x), n-1, 0) }
