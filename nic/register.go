package nic

import (
	"drawbridge/api"
	"drawbridge/bits"
)

// registerSize is how many bytes a register has.
const registerSize = 4

// macSize is how many bytes a hardware address has; so many of them as macLowSize stand in the first of both registers.
const (
	macSize    = 6
	macLowSize = 4
)

// mostCount is how far drops and failures are counted.
const mostCount = 1 << 31

// The registers, in the order of their places.
const (
	ctrl = iota
	cause
	mask
	txBase
	txLen
	txHead
	txTail
	rxBase
	rxLen
	rxHead
	rxTail
	drops
	failures
	macLow
	macHigh
	registerCount
)

// What the controller is to do, as bits of its register; the end is above all of them.
const (
	ctrlSends = 1 << iota
	ctrlReceives
	ctrlReceivesAll
	ctrlEnd
)

// Why the interrupt comes, as bits of its register; the end is above all of them.
const (
	causeSent = 1 << iota
	causeReceived
	causeError
	causeDropped
	causeEnd
)

// registers are all that a controller that may be holds: each of its numbers fits into its register, and the hardware address into two.
type registers [registerCount]uint32

// taken answers the registers of a controller that may be.
func taken(n api.Nic) *registers {
	return &registers{
		ctrl:     uint32(n.Ctrl),
		cause:    uint32(n.Cause),
		mask:     uint32(n.Mask),
		txBase:   uint32(n.TxBase),
		txLen:    uint32(n.TxLen),
		txHead:   uint32(n.TxHead),
		txTail:   uint32(n.TxTail),
		rxBase:   uint32(n.RxBase),
		rxLen:    uint32(n.RxLen),
		rxHead:   uint32(n.RxHead),
		rxTail:   uint32(n.RxTail),
		drops:    uint32(n.Drops),
		failures: uint32(n.Errors),
		macLow:   uint32(bits.Get(n.Mac[:macLowSize], false)),
		macHigh:  uint32(bits.Get(n.Mac[macLowSize:], false)),
	}
}

// nic answers the controller that has these registers, with an address of its own.
func (c *registers) nic() api.Nic {
	return api.Nic{
		Ctrl:   int(c[ctrl]),
		Cause:  int(c[cause]),
		Mask:   int(c[mask]),
		TxBase: uint64(c[txBase]),
		TxLen:  int(c[txLen]),
		TxHead: int(c[txHead]),
		TxTail: int(c[txTail]),
		RxBase: uint64(c[rxBase]),
		RxLen:  int(c[rxLen]),
		RxHead: int(c[rxHead]),
		RxTail: int(c[rxTail]),
		Drops:  int(c[drops]),
		Errors: int(c[failures]),
		Mac:    c.mac(),
	}
}

// mac answers the hardware address.
func (c *registers) mac() []byte {
	low := bits.Put(uint64(c[macLow]), macLowSize, false)
	high := bits.Put(uint64(c[macHigh]), macSize-macLowSize, false)
	return append(low, high...)
}

// store has the register i hold what it keeps of y.
func (c *registers) store(i int, y uint32) {
	switch i {
	case ctrl:
		c[ctrl] = y % ctrlEnd
	case cause:
		c[cause] &^= y
	case mask:
		c[mask] = y % causeEnd
	case txBase, rxBase:
		c[i] = y
	case txLen:
		c.begin(sending(), y)
	case rxLen:
		c.begin(receiving(), y)
	case txTail:
		c.reach(sending(), y)
	case rxTail:
		c.reach(receiving(), y)
	}
}

// has tells whether a register has a bit.
func (c *registers) has(i int, bit uint32) bool { return c[i]&bit != 0 }

// count has the register i be one more, as far as it is counted.
func (c *registers) count(i int) { c[i] = min(c[i]+1, mostCount) }

// drop counts a frame that is forgotten.
func (c *registers) drop() {
	c.count(drops)
	c[cause] |= causeDropped
}

// fail counts an error.
func (c *registers) fail() {
	c.count(failures)
	c[cause] |= causeError
}
