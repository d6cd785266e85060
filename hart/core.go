package hart

import (
	"drawbridge/api"
	"drawbridge/bus"
	"drawbridge/decode"
	"drawbridge/ram"
	"drawbridge/rvc"
	"drawbridge/sv39"
	"drawbridge/trap"
)

// devices are the bits of Mip that the board's devices make.
const devices = 1<<3 | 1<<7 | 1<<9 | 1<<11

// halfSize is how many bytes a short instruction has, and each half of a long one.
const halfSize = 2

// core is a processor and its board while steps are done. Its methods are the instructions, and what these need.
type core struct {
	hart  api.Hart
	board api.Board
	ins   api.Ins // the instruction that is done
	word  uint64  // its bits, as they stand in memory
	next  uint64  // where the processor is behind it
}

// step does a step.
func (c *core) step() {
	c.hart.Csr.Cycle++
	c.hear()
	if line, ok := trap.Pending(c.hart.Csr, c.hart.Priv); ok {
		c.hart.Wait = false
		c.enter(line, true, 0)
	} else if c.hart.Wait {
		if c.hart.Csr.Mip&c.hart.Csr.Mie == 0 {
			return
		}
		c.hart.Wait = false
	}
	if t, was := caught(c.instruction); was {
		c.enter(t.cause, false, t.tval)
	}
}

// hear has the interrupts that the devices ask for stand in Mip.
func (c *core) hear() {
	memory := c.board.Ram
	// Only devices are asked: memory, by far the longest of what a board holds, need not be copied for that.
	c.board.Ram = api.Ram{}
	board, up := bus.Lines(c.board)
	board.Ram = memory
	c.board = board
	c.hart.Csr.Mip = c.hart.Csr.Mip&^devices | up
}

// enter has the processor go where an interrupt or a trap leads.
func (c *core) enter(cause int, irq bool, tval uint64) {
	h := &c.hart
	h.Csr, h.Priv, h.Pc = trap.Enter(h.Csr, h.Priv, h.Pc, cause, irq, tval)
}

// instruction does the instruction at Pc; a trap leaves Pc as it is.
func (c *core) instruction() {
	c.fetch()
	rowOf(c.ins.Class)(c)
	c.hart.Pc = c.next
}

// fetch takes the instruction at Pc apart.
func (c *core) fetch() {
	pc := c.hart.Pc
	c.word, c.next = c.half(pc), pc+halfSize
	var long uint32
	if rvc.Short(uint16(c.word)) {
		// What stands for nothing is 0 then, which is no instruction either.
		long, _ = rvc.Expand(uint16(c.word))
	} else {
		c.word |= c.half(c.next) << (8 * halfSize)
		c.next += halfSize
		long = uint32(c.word)
	}
	ins, ok := decode.Decode(long)
	c.mustBe(ok)
	c.ins = ins
}

// half answers the two bytes of an instruction at an address. Instructions stand in memory alone, so that devices are not asked.
func (c *core) half(at uint64) uint64 {
	place := c.translate(at, api.Fetch, c.hart.Priv)
	x, ok := ram.Read(c.board.Ram, place, halfSize)
	mustReach(ok, at, api.Fetch)
	return x
}

// translate answers where an address leads one with this privilege, who asks for it by kind. The marks that pages get stay, also when a trap comes later.
func (c *core) translate(at uint64, kind int, priv int) uint64 {
	s := c.hart.Csr
	place, memory, cause, ok := sv39.Translate(c.board.Ram, s.Satp, s.Status, priv, at, kind)
	c.board.Ram = memory
	if !ok {
		panic(trapped{cause, at})
	}
	return place
}
