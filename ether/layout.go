package ether

import (
	"bytes"
	"math"
	"slices"

	"drawbridge/api"
	"drawbridge/bits"
)

// How many bytes a hardware address, a number of two bytes, and an address have.
const (
	macSize     = 6
	pairSize    = 2
	addressSize = 4
)

// maxData is how many bytes of Data a frame has at most.
const maxData = api.MaxFrame - api.MinFrame

// How many bytes a message begins with, whatever it says, and how many it has in all.
const (
	headSize = 6
	arpSize  = headSize + pairSize + 2*(macSize+addressSize)
)

// What messages do.
const (
	opAsks    = 1
	opAnswers = 2
)

// ethernet is the number by which a message tells that hardware addresses are Ethernet's.
const ethernet = 1

// arpHead answers what every message begins with: whose the addresses are, and how long.
func arpHead() []byte {
	return slices.Concat(pair(ethernet), pair(api.TypeIp), []byte{macSize, addressSize})
}

// isMac tells whether these bytes are a hardware address.
func isMac(b []byte) bool { return len(b) == macSize }

// isOp tells whether a message may do this.
func isOp(op int) bool { return op == opAsks || op == opAnswers }

// isFrame tells whether a frame may be.
func isFrame(f api.Frame) bool {
	return isMac(f.Dst) && isMac(f.Src) && f.Type >= 0 && f.Type <= math.MaxUint16 && len(f.Data) <= maxData
}

// isMessage tells whether a message may be.
func isMessage(a api.Arp) bool { return isMac(a.Smac) && isMac(a.Tmac) && isOp(a.Op) }

// pair answers the two bytes of a number, address the four of an address.
func pair(x int) []byte       { return bits.Put(uint64(x), pairSize, true) }
func address(x uint32) []byte { return bits.Put(uint64(x), addressSize, true) }

// frame answers the frame that has these bytes, or why they are none.
func frame(b []byte) (api.Frame, error) {
	switch {
	case len(b) < api.MinFrame:
		return api.Frame{}, refusal{"frame", len(b), errShort}
	case len(b) > api.MaxFrame:
		return api.Frame{}, refusal{"frame", len(b), errLong}
	}
	p := partsOf(b)
	return api.Frame{Dst: p.mac(), Src: p.mac(), Type: p.pair(), Data: p.rest()}, nil
}

// message answers the message that has the first of these bytes, or why they are none's.
func message(b []byte) (api.Arp, error) {
	if len(b) < arpSize {
		return api.Arp{}, refusal{"message", len(b), errShort}
	}
	// What is behind is not copied, either.
	p := partsOf(b[:arpSize])
	head := p.take(headSize)
	a := api.Arp{Op: p.pair(), Smac: p.mac(), Sip: p.address(), Tmac: p.mac(), Tip: p.address()}
	if !bytes.Equal(head, arpHead()) || !isOp(a.Op) {
		return api.Arp{}, refusal{"message", len(b), errOther}
	}
	return a, nil
}
