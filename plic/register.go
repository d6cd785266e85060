package plic

// registerSize is how many bytes a register has.
const registerSize = 4

// Where the registers stand: a priority for each source's number from prioPlace on; of the first context those of the last three places, of the second one so much behind them as is told.
const (
	prioPlace      = 0
	pendingPlace   = 0x1000
	enablePlace    = 0x2000
	enableStep     = 0x80
	thresholdPlace = 0x200000
	claimPlace     = 0x200004
	contextStep    = 0x1000
)

// register is how a register is looked at: what is loaded of it, and what becomes of it when x is stored.
type register struct {
	load  func() uint32
	store func(x uint32)
}

// look answers the register at off, and whether there is one.
func (c *controller) look(off uint64) (register, bool) {
	switch off {
	case prioPlace + 1*registerSize, prioPlace + 2*registerSize:
		prio := &c.prios[(off-prioPlace)/registerSize]
		return register{prio.load, prio.store}, true
	case pendingPlace:
		return register{c.pending.load, stay}, true
	}
	for i := range c.contexts {
		if r, ok := c.lookAt(i, off); ok {
			return r, true
		}
	}
	return register{}, false
}

// lookAt answers the register at off, and whether it is one of the context i.
func (c *controller) lookAt(i int, off uint64) (register, bool) {
	ctx, n := &c.contexts[i], uint64(i)
	switch off {
	case enablePlace + n*enableStep:
		return register{ctx.enable.load, ctx.enable.store}, true
	case thresholdPlace + n*contextStep:
		return register{ctx.threshold.load, ctx.threshold.store}, true
	case claimPlace + n*contextStep:
		d := desk{c, ctx}
		return register{d.claim, d.giveBack}, true
	}
	return register{}, false
}

// stay leaves a register as it is, whatever is stored.
func stay(uint32) {}

func (l *level) load() uint32   { return uint32(*l) }
func (l *level) store(x uint32) { *l = level(x % levelCount) }

func (s *sources) load() uint32   { return uint32(*s) }
func (s *sources) store(x uint32) { *s = sources(x) & allSources }

// desk is where a context gets its sources, and gives them back.
type desk struct {
	c   *controller
	ctx *context
}

// claim answers the source that is told to the context, which nobody is told any more then.
func (d desk) claim() uint32 {
	best := d.c.best(*d.ctx)
	d.c.pending &^= only(best)
	d.c.claimed |= only(best)
	return best
}

// giveBack has the source x claimed no more, if it is one of the context's.
func (d desk) giveBack(x uint32) { d.c.claimed &^= only(x) & d.ctx.enable }
