package hart

import (
	"drawbridge/alu"
	"drawbridge/api"
)

// rowOf answers what does the instructions of a class, which is one that layer 3 answers.
func rowOf(class api.Class) func(*core) {
	rows := [...]func(*core){
		api.Lui:    (*core).lui,
		api.Auipc:  (*core).auipc,
		api.Jal:    (*core).jump,
		api.Jalr:   (*core).jump,
		api.Branch: (*core).branch,
		api.Load:   (*core).load,
		api.Store:  (*core).store,
		api.AluImm: (*core).reckonImm,
		api.Alu:    (*core).reckon,
		api.Fence:  (*core).fence,
		api.System: (*core).system,
		api.Csr:    (*core).control,
		api.Amo:    (*core).amo,
	}
	return rows[class]
}

// a and b answer the registers Rs1 and Rs2.
func (c *core) a() uint64 { return c.hart.X[c.ins.Rs1] }
func (c *core) b() uint64 { return c.hart.X[c.ins.Rs2] }

// answer puts d into Rd.
func (c *core) answer(d uint64) {
	if c.ins.Rd != 0 {
		c.hart.X[c.ins.Rd] = d
	}
}

func (c *core) lui()   { c.answer(c.ins.Imm) }
func (c *core) auipc() { c.answer(c.hart.Pc + c.ins.Imm) }

func (c *core) reckonImm() { c.answer(alu.Do(c.ins.F, c.ins.Word, c.a(), c.ins.Imm)) }
func (c *core) reckon()    { c.answer(alu.Do(c.ins.F, c.ins.Word, c.a(), c.b())) }

// fence has nothing to do: all that is stored is seen at once.
func (c *core) fence() {}

// jump is jal, and jalr, which goes from a register. The lowest bit of jal's place is 0 anyway.
func (c *core) jump() {
	from := c.hart.Pc
	switch c.ins.Class {
	case api.Jalr:
		// Ahead of the answer, since both may be one register.
		from = c.a()
		fallthrough
	case api.Jal:
		c.answer(c.next)
		c.next = (from + c.ins.Imm) &^ 1
	}
}

func (c *core) branch() {
	if alu.Cond(c.ins.F, c.a(), c.b()) {
		c.next = c.hart.Pc + c.ins.Imm
	}
}
