package ip

import (
	"math"
	"slices"

	"drawbridge/api"
	"drawbridge/bits"
	"drawbridge/sum"
)

// How many bytes a head has without Options, Options have at most, and a packet has at most.
const (
	minHead    = 20
	maxOptions = 40
	maxSize    = math.MaxUint16
)

// How many bytes a number of two bytes, and an address have; a head is measured in words.
const (
	pairSize    = 2
	addressSize = 4
	wordSize    = 4
)

// Where the parts of a head stand; the first byte tells the version above and the head's words below, Flags stand above Off.
const (
	firstAt = 0
	tosAt   = 1
	sizeAt  = 2
	idAt    = 4
	cutAt   = 6
	ttlAt   = 8
	protoAt = 9
	sumAt   = 10
	srcAt   = 12
	dstAt   = 16
)

// version is the one of all packets, versionBits how far above the words it stands.
const (
	version     = 4
	versionBits = 4
	maxWords    = 1<<versionBits - 1
)

// How far above Off the Flags stand, and the greatest ones.
const (
	offBits  = 13
	maxOff   = 1<<offBits - 1
	maxFlags = 7
)

// isPacket tells whether a packet may be.
func isPacket(p api.Ip) bool {
	return within(p.Tos, math.MaxUint8) && within(p.Ttl, math.MaxUint8) && within(p.Proto, math.MaxUint8) &&
		within(p.Id, math.MaxUint16) && within(p.Flags, maxFlags) && within(p.Off, maxOff) &&
		len(p.Options) <= maxOptions && len(p.Options)%wordSize == 0 && sizeOf(p) <= maxSize
}

// within tells whether x is from 0 to most.
func within(x int, most int) bool { return x >= 0 && x <= most }

// headSize answers how many bytes the head of p has, sizeOf how many p has in all.
func headSize(p api.Ip) int { return minHead + len(p.Options) }
func sizeOf(p api.Ip) int   { return headSize(p) + len(p.Data) }

// headOf answers the head of p, with noughts in its checksum's place: that hangs on all the others.
func headOf(p api.Ip) []byte {
	return slices.Concat(
		[]byte{byte(version<<versionBits | headSize(p)/wordSize), byte(p.Tos)},
		pair(sizeOf(p)),
		pair(p.Id),
		pair(p.Flags<<offBits|p.Off),
		[]byte{byte(p.Ttl), byte(p.Proto)},
		pair(0),
		address(p.Src),
		address(p.Dst),
		p.Options,
	)
}

// pair answers the two bytes of a number, address the four of an address.
func pair(x int) []byte       { return bits.Put(uint64(x), pairSize, true) }
func address(x uint32) []byte { return bits.Put(uint64(x), addressSize, true) }

// pairAt answers the number whose two bytes stand at a place of b, addressAt the address whose four do.
func pairAt(b []byte, at int) int { return int(bits.Get(b[at:at+pairSize], true)) }
func addressAt(b []byte, at int) uint32 {
	return uint32(bits.Get(b[at:at+addressSize], true))
}

// headTold answers how many bytes the first byte tells that the head has.
func headTold(b []byte) int { return int(b[firstAt]&maxWords) * wordSize }

// check answers why bytes are no packet, if they are none. A reason stands behind those without which it could not be asked.
func check(b []byte) error {
	if len(b) < minHead {
		return refusal{api.ErrShort, len(b), "they are fewer than any head"}
	}
	head, size := headTold(b), pairAt(b, sizeAt)
	switch {
	case b[firstAt]>>versionBits != version:
		return refusal{api.ErrForm, len(b), "they are of another version"}
	case head < minHead:
		return refusal{api.ErrForm, len(b), "the head that they tell is too short"}
	case len(b) < head:
		return refusal{api.ErrShort, len(b), "they are fewer than the head"}
	case !sum.Right(b[:head]):
		return refusal{api.ErrSum, len(b), "the head's checksum is wrong"}
	case size < head:
		return refusal{api.ErrForm, len(b), "they tell that they are fewer than the head"}
	case len(b) < size:
		return refusal{api.ErrShort, len(b), "they tell that they are more"}
	}
	return nil
}

// packet answers the packet that has the first of these bytes, or why they are none's.
func packet(b []byte) (api.Ip, error) {
	if err := check(b); err != nil {
		return api.Ip{}, err
	}
	head, size := headTold(b), pairAt(b, sizeAt)
	// One copy does for both parts, since each is cut at its end: what is appended to one takes other memory.
	b = slices.Clone(b[:size])
	return api.Ip{
		Tos:     int(b[tosAt]),
		Id:      pairAt(b, idAt),
		Flags:   pairAt(b, cutAt) >> offBits,
		Off:     pairAt(b, cutAt) & maxOff,
		Ttl:     int(b[ttlAt]),
		Proto:   int(b[protoAt]),
		Src:     addressAt(b, srcAt),
		Dst:     addressAt(b, dstAt),
		Options: b[minHead:head:head],
		Data:    b[head:size:size],
	}, nil
}
