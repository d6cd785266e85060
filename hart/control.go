package hart

import (
	"drawbridge/api"
	"drawbridge/bits"
	"drawbridge/csr"
	"drawbridge/trap"
)

// What is done to a control register, by F modulo 4, unless x replaces what it is; from number on Rs1 is itself x.
const (
	sets   = 2
	clears = 3
	number = 5
)

// The bits of Status that keep something from the Supervisor: to have pages looked at anew, to wait, to come back from a trap.
const (
	keepsPages = 20
	keepsWait  = 21
	keepsBack  = 22
)

// control reads and writes a control register; Rd is last, so that what is refused changes nothing.
func (c *core) control() {
	num, priv := int(c.ins.Imm), c.hart.Priv
	old, ok := csr.Read(c.hart.Csr, num, priv)
	c.mustBe(ok)
	if x, writes := c.changed(old); writes {
		left, ok := csr.Write(c.hart.Csr, num, priv, x)
		c.mustBe(ok)
		c.hart.Csr = left
	}
	c.answer(old)
}

// changed answers what a control register becomes that was old, and whether it is written at all.
func (c *core) changed(old uint64) (uint64, bool) {
	x, some := c.a(), c.ins.Rs1 != 0
	if c.ins.F >= number {
		x = uint64(c.ins.Rs1)
	}
	switch c.ins.F % 4 {
	case sets:
		return old | x, some
	case clears:
		return old &^ x, some
	}
	return x, true
}

// system is what calls those above, what comes back from there, and what waits.
func (c *core) system() {
	switch c.ins.F {
	case api.Ecall:
		panic(trapped{api.CauseCallU + c.hart.Priv, 0})
	case api.Ebreak:
		panic(trapped{api.CauseBreak, c.hart.Pc})
	case api.Sret:
		c.mustBe(c.unkept(keepsBack))
		c.back(trap.Sret)
	case api.Mret:
		c.mustBe(c.hart.Priv == api.Machine)
		c.back(trap.Mret)
	case api.Wfi:
		c.mustBe(c.unkept(keepsWait))
		c.hart.Wait = true
	case api.Sfence:
		// Pages are looked up anew each time, so that there is nothing to forget.
		c.mustBe(c.unkept(keepsPages))
	}
}

// unkept tells whether the privilege does what no User does, and the Supervisor unless a bit of Status keeps it.
func (c *core) unkept(bit int) bool {
	if c.hart.Priv == api.Supervisor {
		return bits.Field(c.hart.Csr.Status, bit, bit) == 0
	}
	return c.hart.Priv == api.Machine
}

// back has the processor come back from a trap.
func (c *core) back(from func(api.Csrs) (api.Csrs, int, uint64)) {
	c.hart.Csr, c.hart.Priv, c.next = from(c.hart.Csr)
}
