package dhcp

import (
	"slices"

	"drawbridge/api"
	"drawbridge/bits"
)

// hardware tells that the address of six bytes is a Mac, cookie that options follow.
const (
	hardware = 1
	cookie   = 0x63825363
)

// How many bytes a number has, a Mac, and all that stands ahead of the options.
const (
	longSize = 4
	macSize  = 6
	headSize = 240
)

// Where the parts of a head stand.
const (
	opAt       = 0
	hardwareAt = 1
	macSizeAt  = 2
	xidAt      = 4
	ciAt       = 12
	yiAt       = 16
	macAt      = 28
	cookieAt   = 236
)

// headOf answers the head of a message. What stands between its parts is of no use here, and nought.
func headOf(d api.Dhcp) []byte {
	b := make([]byte, headSize)
	b[opAt], b[hardwareAt], b[macSizeAt] = byte(d.Op), hardware, macSize
	copy(b[xidAt:], long(d.Xid))
	copy(b[ciAt:], long(d.Ci))
	copy(b[yiAt:], long(d.Yi))
	copy(b[macAt:], d.Mac)
	copy(b[cookieAt:], long(cookie))
	return b
}

// isHead tells whether what stands alike in each head does so in that of b.
func isHead(b []byte) bool {
	return b[hardwareAt] == hardware && b[macSizeAt] == macSize && longAt(b, cookieAt) == cookie
}

// messageAt answers the message that the head of b tells, without what options tell.
func messageAt(b []byte) api.Dhcp {
	return api.Dhcp{
		Op:  int(b[opAt]),
		Xid: longAt(b, xidAt),
		Ci:  longAt(b, ciAt),
		Yi:  longAt(b, yiAt),
		Mac: slices.Clone(b[macAt : macAt+macSize]),
	}
}

// long answers the four bytes of a number, longAt the number whose four bytes stand at a place of b.
func long(x uint32) []byte           { return bits.Put(uint64(x), longSize, true) }
func longAt(b []byte, at int) uint32 { return uint32(bits.Get(b[at:at+longSize], true)) }
