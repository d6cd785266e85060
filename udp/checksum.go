package udp

import (
	"slices"

	"drawbridge/api"
	"drawbridge/sum"
)

// noChecksum is what stands in the checksum's place of a datagram that has none, otherNought what is written of a checksum that comes out so: both count the same, but just one says that nothing is asked.
const (
	noChecksum  = 0
	otherNought = 0xffff
)

// covered answers what the checksum of a datagram's bytes is reckoned of: they stand behind their Pseudo.
func covered(b []byte, src uint32, dst uint32) []byte {
	return slices.Concat(sum.Pseudo(src, dst, api.ProtoUdp, len(b)), b)
}

// checksumOf answers the checksum of a datagram's bytes, in whose checksum's place noughts stand.
func checksumOf(b []byte, src uint32, dst uint32) int {
	x := sum.Sum(covered(b, src, dst))
	if x == noChecksum {
		return otherNought
	}
	return x
}
