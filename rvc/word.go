package rvc

import "drawbridge/bits"

// Bits 6-0 of the instructions that short ones stand for, as layer 3's chapter tells them.
const (
	opLoad    = 0x03
	opImm     = 0x13
	opImmWord = 0x1b
	opStore   = 0x23
	opReg     = 0x33
	opLui     = 0x37
	opRegWord = 0x3b
	opBranch  = 0x63
	opJalr    = 0x67
	opJal     = 0x6f
)

// ebreak has no parts that rows could change.
const ebreak = 0x00100073

// Bits 14-12 of a load and a store.
const (
	ofWord   = 2
	ofDouble = 3
)

// less is bits 31-25 of what subtracts; keepSign the bit of the immediate that tells srai from srli.
const (
	less     = 32
	keepSign = 1 << 10
)

// immediate puts together what has rd, rs1 and twelve bits.
func immediate(op uint64, f uint64, rd uint64, rs1 uint64, imm uint64) uint32 {
	return uint32(bits.Field(imm, 11, 0)<<20 | rs1<<15 | f<<12 | rd<<7 | op)
}

// registers puts together what has three registers.
func registers(op uint64, f uint64, g uint64, rd uint64, rs1 uint64, rs2 uint64) uint32 {
	return uint32(g<<25 | rs2<<20 | rs1<<15 | f<<12 | rd<<7 | op)
}

// store puts together a store of rs2 at imm(rs1).
func store(f uint64, rs1 uint64, rs2 uint64, imm uint64) uint32 {
	return uint32(bits.Field(imm, 11, 5)<<25 | rs2<<20 | rs1<<15 | f<<12 | bits.Field(imm, 4, 0)<<7 | opStore)
}

// luiOf puts together a lui: of imm the bits 31 to 12 stand where they are.
func luiOf(rd uint64, imm uint64) uint32 {
	return uint32(bits.Field(imm, 31, 12)<<12 | rd<<7 | opLui)
}

// jalOf puts together a jal, which has its immediate [20|10:1|11|19:12] in bits 31-12.
func jalOf(rd uint64, imm uint64) uint32 {
	place := bits.Field(imm, 20, 20)<<19 | bits.Field(imm, 10, 1)<<9 | bits.Field(imm, 11, 11)<<8 | bits.Field(imm, 19, 12)
	return uint32(place<<12 | rd<<7 | opJal)
}

// branchOf puts together a branch, which has its immediate [12|10:5] in bits 31-25, [4:1|11] in bits 11-7.
func branchOf(f uint64, rs1 uint64, rs2 uint64, imm uint64) uint32 {
	high := bits.Field(imm, 12, 12)<<6 | bits.Field(imm, 10, 5)
	low := bits.Field(imm, 4, 1)<<1 | bits.Field(imm, 11, 11)
	return uint32(high<<25 | rs2<<20 | rs1<<15 | f<<12 | low<<7 | opBranch)
}
