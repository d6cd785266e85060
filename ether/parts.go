package ether

import (
	"slices"

	"drawbridge/bits"
)

// parts are bytes of its own, of which one part after another is taken.
type parts struct{ left []byte }

// partsOf answers the parts of a copy of b. One copy does for all of them, since each is cut at its end.
func partsOf(b []byte) *parts { return &parts{slices.Clone(b)} }

// take answers the next n bytes. Cut at their end they have no room, so that append takes other memory, and the parts behind them stay.
func (p *parts) take(n int) []byte {
	part := p.left[:n:n]
	p.left = p.left[n:]
	return part
}

// rest answers all bytes that are left.
func (p *parts) rest() []byte { return p.take(len(p.left)) }

// mac answers the hardware address that is next, pair the number of two bytes, address the address.
func (p *parts) mac() []byte     { return p.take(macSize) }
func (p *parts) pair() int       { return int(bits.Get(p.take(pairSize), true)) }
func (p *parts) address() uint32 { return uint32(bits.Get(p.take(addressSize), true)) }
