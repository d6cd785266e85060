package hart

import (
	"drawbridge/alu"
	"drawbridge/api"
	"drawbridge/bits"
	"drawbridge/bus"
	"drawbridge/ram"
)

// unsigned is the F from which on what is loaded has no sign.
const unsigned = 4

// What is done in memory at once, and needs no sum: a load that reserves its place, and a store to a reserved place.
const (
	reserves = 2
	redeems  = 3
)

// The parts of Status that have the Machine load and store as another privilege: whether it does, and as which.
const (
	asOther   = 17
	otherHigh = 12
	otherLow  = 11
)

// sizeOf answers how many bytes are loaded or stored by F.
func sizeOf(f int) int { return 1 << (f % 4) }

func (c *core) load() {
	at, size := c.a()+c.ins.Imm, sizeOf(c.ins.F)
	place := c.place(at, size, api.Reading)
	x, board, ok := bus.Load(c.board, place, size)
	mustReach(ok, at, api.Reading)
	c.board = board
	if c.ins.F < unsigned {
		x = signed(x, size)
	}
	c.answer(x)
}

func (c *core) store() {
	at, size := c.a()+c.ins.Imm, sizeOf(c.ins.F)
	place := c.place(at, size, api.Writing)
	board, ok := bus.Store(c.board, place, size, c.b())
	mustReach(ok, at, api.Writing)
	c.board = board
}

// amo loads and stores at once, in memory alone: devices are not asked.
func (c *core) amo() {
	at, size, kind := c.a(), sizeOf(3), api.Writing
	if c.ins.Word {
		size = sizeOf(2)
	}
	if c.ins.F == reserves {
		kind = api.Reading
	}
	place := c.place(at, size, kind)
	old, ok := ram.Read(c.board.Ram, place, size)
	mustReach(ok, at, kind)
	switch c.ins.F {
	case reserves:
		c.hart.Reserve, c.hart.Held = place, true
		c.answer(signed(old, size))
	case redeems:
		c.redeem(place, size)
	default:
		// Ahead of the answer, since Rd and Rs2 may be one register.
		c.put(place, size, alu.Amo(c.ins.F, c.ins.Word, old, c.b()))
		c.answer(signed(old, size))
	}
}

// redeem stores at a place in memory, if that is reserved, and answers 0; else 1. No place is reserved then.
func (c *core) redeem(place uint64, size int) {
	failed := uint64(1)
	if c.hart.Held && c.hart.Reserve == place {
		c.put(place, size, c.b())
		failed = 0
	}
	c.hart.Held = false
	c.answer(failed)
}

// put stores x at a place in memory.
func (c *core) put(place uint64, size int, x uint64) {
	c.board.Ram, _ = ram.Write(c.board.Ram, place, size, x)
}

// place answers where the address at leads, at which so many bytes are asked for by kind.
func (c *core) place(at uint64, size int, kind int) uint64 {
	if !bits.Align(at, size) {
		panic(trapped{alignCause(kind), at})
	}
	return c.translate(at, kind, c.dataPriv())
}

// dataPriv answers the privilege with which is loaded and stored.
func (c *core) dataPriv() int {
	status := c.hart.Csr.Status
	if c.hart.Priv == api.Machine && bits.Field(status, asOther, asOther) == 1 {
		return int(bits.Field(status, otherHigh, otherLow))
	}
	return c.hart.Priv
}

// alignCause answers the cause of an address that is no multiple of how many bytes are asked for there.
func alignCause(kind int) int {
	if kind == api.Writing {
		return api.CauseStoreAlign
	}
	return api.CauseLoadAlign
}

// signed answers a number of so many bytes with its sign in all bits above.
func signed(x uint64, size int) uint64 { return bits.Sext(x, 8*size) }
