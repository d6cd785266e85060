package nic

import (
	"drawbridge/api"
	"drawbridge/bits"
	"drawbridge/ram"
)

// ring is where one of both rings stands among the registers, and the bit of Ctrl that has it run.
type ring struct {
	base, length, head, tail int
	runs                     uint32
}

// sending and receiving are the two rings.
func sending() ring   { return ring{txBase, txLen, txHead, txTail, ctrlSends} }
func receiving() ring { return ring{rxBase, rxLen, rxHead, rxTail, ctrlReceives} }

// Where a descriptor's parts stand. The flags and the status stand side by side, so that they are written at once.
const (
	addressAt = 0
	lengthAt  = 8
	flagsAt   = 10
	statusAt  = 12
	statusEnd = 14
)

// flagOwned is the flag of a descriptor that is the controller's.
const flagOwned = 1

// What a descriptor's status tells when the controller has done with it.
const (
	statusDone    = 1
	statusNoFrame = 2
	statusNoRoom  = 4
)

// descriptor is a copy of a descriptor. It stays as it was read when a frame is written over it in memory.
type descriptor [api.DescSize]byte

// part answers the number of the descriptor's bytes from one place to another.
func (d descriptor) part(from int, to int) uint64 { return bits.Get(d[from:to], false) }

// address answers where its bytes are, length how many, owned whether it is the controller's.
func (d descriptor) address() uint64 { return d.part(addressAt, lengthAt) }
func (d descriptor) length() int     { return int(d.part(lengthAt, flagsAt)) }
func (d descriptor) owned() bool     { return d.part(flagsAt, statusAt)&flagOwned != 0 }

// begin has a ring be of length descriptors, and empty; a length that no ring has changes nothing.
func (c *registers) begin(g ring, length uint32) {
	if isLength(int(length)) {
		c[g.length], c[g.head], c[g.tail] = length, 0, 0
	}
}

// reach has a ring's tail be there, if it has such a place.
func (c *registers) reach(g ring, tail uint32) {
	if tail < c[g.length] {
		c[g.tail] = tail
	}
}

// waits tells whether a ring runs, and has descriptors from its head to its tail.
func (c *registers) waits(g ring) bool { return c.has(ctrl, g.runs) && c[g.head] != c[g.tail] }

// place answers where the descriptor of a ring's head is, of 64 bits, since it may be above the base's 32.
func (c *registers) place(g ring) uint64 {
	return uint64(c[g.base]) + api.DescSize*uint64(c[g.head])
}

// next answers a copy of the descriptor of a ring's head, and true; false of a broken ring, which does not run any more.
func (c *registers) next(g ring, r api.Ram) (descriptor, bool) {
	var d descriptor
	b, ok := ram.Bytes(r, c.place(g), api.DescSize)
	if !ok {
		c[ctrl] &^= g.runs
		c.fail()
		return d, false
	}
	copy(d[:], b)
	return d, true
}

// done answers memory in which d, the descriptor of a ring's head, is done with, and goes on to the next one. The flags are those that were read, whatever stands there now.
func (c *registers) done(g ring, r api.Ram, d descriptor, status uint64) api.Ram {
	flags := d.part(flagsAt, statusAt) &^ flagOwned
	both := flags | status<<(8*(statusAt-flagsAt))
	left, _ := ram.Write(r, c.place(g)+flagsAt, statusEnd-flagsAt, both)
	c[g.head] = (c[g.head] + 1) % c[g.length]
	return left
}
