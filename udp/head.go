package udp

import (
	"math"

	"drawbridge/api"
	"drawbridge/bits"
)

// Which number of a head is which, in their order, and how many they are.
const (
	srcPort = iota
	dstPort
	size
	checksum
	numbers
)

// head is the numbers that a datagram begins with.
type head [numbers]int

// pairSize is how many bytes one number has, headSize how many all have.
const (
	pairSize = 2
	headSize = numbers * pairSize
)

// The greatest port, and how many bytes Data have at most: those that a packet has room for beside its own head and a datagram's.
const (
	maxPort = math.MaxUint16
	maxData = 65507
)

// isDatagram tells whether a datagram may be.
func isDatagram(u api.Udp) bool {
	return isPort(u.Src) && isPort(u.Dst) && len(u.Data) <= maxData
}

// isPort tells whether x may be a port.
func isPort(x int) bool { return x >= 0 && x <= maxPort }

// headOf answers the head of u, with a nought for its checksum: that hangs on all the others.
func headOf(u api.Udp) head {
	return head{srcPort: u.Src, dstPort: u.Dst, size: headSize + len(u.Data)}
}

// headAt answers the head that b begins with.
func headAt(b []byte) head {
	h := head{}
	for i := range h {
		h[i] = int(bits.Get(b[pairSize*i:pairSize*(i+1)], true))
	}
	return h
}

// bytes answers the bytes of a head.
func (h head) bytes() []byte {
	var b []byte
	for _, x := range h {
		b = append(b, bits.Put(uint64(x), pairSize, true)...)
	}
	return b
}
