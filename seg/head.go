package seg

import (
	"math"
	"slices"

	"drawbridge/api"
	"drawbridge/bits"
	"drawbridge/sum"
)

// How many bytes a head has without options, a segment has at most, Data of one of ours have at most, and those have that are added for the checksum.
const (
	minHead    = 20
	maxSize    = math.MaxUint16
	maxData    = 60000
	pseudoSize = 12
)

// How many bytes a number of two bytes and one of four have; a head is measured in words.
const (
	pairSize = 2
	longSize = 4
	wordSize = 4
)

// Where the parts of a head stand; the words have the upper bits of their byte.
const (
	srcAt   = 0
	dstAt   = 2
	seqAt   = 4
	ackAt   = 8
	wordsAt = 12
	flagsAt = 13
	winAt   = 14
	sumAt   = 16
)

// How far up the words stand, and all flags: what stands above them is not ours.
const (
	wordsBits = 4
	allFlags  = api.Fin | api.Syn | api.Rst | api.Psh | api.Ack | api.Urg
)

// head is what a segment begins with, but for the checksum: that hangs on all the others.
type head struct {
	src   int
	dst   int
	seq   uint32
	ack   uint32
	size  int
	flags int
	win   int
	mss   int
}

// isSegment tells whether a segment may be. A number that has no room in its bytes is another one when they are read again, and so is its head.
func isSegment(s api.Seg) bool {
	h := headOf(s)
	again, ok := headAt(h.bytes())
	return ok && again == h && len(s.Data) <= maxData
}

// headOf answers the head that a segment is given.
func headOf(s api.Seg) head {
	h := head{src: s.Src, dst: s.Dst, seq: s.Seq, ack: s.Ack, size: minHead, flags: s.Flags, win: s.Win, mss: s.Mss}
	if h.mss != 0 {
		h.size += mssSize
	}
	return h
}

// headAt answers the head that b begins with, whose bytes are all there; false, if its options are none.
func headAt(b []byte) (head, bool) {
	size := headTold(b)
	mss, ok := mssIn(b[minHead:size])
	if !ok {
		return head{}, false
	}
	return head{
		src:   pairAt(b, srcAt),
		dst:   pairAt(b, dstAt),
		seq:   longAt(b, seqAt),
		ack:   longAt(b, ackAt),
		size:  size,
		flags: int(b[flagsAt] & allFlags),
		win:   pairAt(b, winAt),
		mss:   mss,
	}, true
}

// bytes answers the bytes of a head that has no other option than an Mss, with noughts in its checksum's place.
func (h head) bytes() []byte {
	return slices.Concat(
		pair(h.src),
		pair(h.dst),
		long(h.seq),
		long(h.ack),
		[]byte{byte(h.size / wordSize << wordsBits), byte(h.flags)},
		pair(h.win),
		pair(0),
		// Nothing of ours is ever urgent.
		pair(0),
		mssOption(h.mss),
	)
}

// segment answers the segment with this head and these Data.
func (h head) segment(data []byte) api.Seg {
	return api.Seg{Src: h.src, Dst: h.dst, Seq: h.seq, Ack: h.ack, Flags: h.flags, Win: h.win, Mss: h.mss, Data: data}
}

// headTold answers how many bytes b tells that its head has.
func headTold(b []byte) int { return int(b[wordsAt]>>wordsBits) * wordSize }

// check answers why bytes are no segment's, its options aside. A reason stands behind those without which it could not be asked.
func check(b []byte, src uint32, dst uint32) api.Errno {
	switch {
	case len(b) < minHead:
		return api.ErrShort
	case len(b) > maxSize, headTold(b) < minHead:
		return api.ErrForm
	case len(b) < headTold(b):
		return api.ErrShort
	case !sum.Right(covered(b, src, dst)):
		return api.ErrSum
	}
	return api.OK
}

// covered answers what the checksum of a segment's bytes is reckoned of: they stand behind their Pseudo.
func covered(b []byte, src uint32, dst uint32) []byte {
	return slices.Concat(sum.Pseudo(src, dst, api.ProtoTcp, len(b)), b)
}

// pair answers the two bytes of a number, long the four of one.
func pair(x int) []byte    { return bits.Put(uint64(x), pairSize, true) }
func long(x uint32) []byte { return bits.Put(uint64(x), longSize, true) }

// pairAt answers the number whose two bytes stand at a place of b, longAt the one whose four do.
func pairAt(b []byte, at int) int    { return int(bits.Get(b[at:at+pairSize], true)) }
func longAt(b []byte, at int) uint32 { return uint32(bits.Get(b[at:at+longSize], true)) }
