package plic

import "drawbridge/api"

// How many sources and contexts there are. Sources are numbered from 1 on, since 0 stands for none.
const (
	sourceCount  = 2
	contextCount = 2
)

// levelCount is how many levels there are, from 0 on.
const levelCount = 8

// level is a priority, or what priorities have to be above.
type level int

// sources are some of the sources: a bit for each one, at the place of its number.
type sources int

// allSources is the bits of all of them.
const allSources sources = 1<<1 | 1<<2

// context is one to which sources are told: which of them, and above which level.
type context struct {
	enable    sources
	threshold level
}

// controller is what a controller that may be holds, with memory of its own. No source has the place 0 of prios, and its level is 0.
type controller struct {
	prios    [sourceCount + 1]level
	pending  sources
	claimed  sources
	contexts [contextCount]context
}

// isLevel tells whether x is a level.
func isLevel(x int) bool { return x >= 0 && x < levelCount }

// isSources tells whether x has no bits but those of sources.
func isSources(x int) bool { return sources(x)&^allSources == 0 }

// only answers the source n alone; none of a number that no source has.
func only(n uint32) sources { return 1 << n & allSources }

// taken answers what a controller that may be holds.
func taken(p api.Plic) *controller {
	c := &controller{pending: sources(p.Pending), claimed: sources(p.Claimed)}
	for n := range c.prios {
		c.prios[n] = level(p.Prio[n])
	}
	for i := range c.contexts {
		c.contexts[i] = context{enable: sources(p.Enable[i]), threshold: level(p.Threshold[i])}
	}
	return c
}

// plic answers the controller that holds this, with rows of its own.
func (c *controller) plic() api.Plic {
	p := api.Plic{
		Prio:      make([]int, sourceCount+1),
		Pending:   int(c.pending),
		Claimed:   int(c.claimed),
		Enable:    make([]int, contextCount),
		Threshold: make([]int, contextCount),
	}
	for n, prio := range c.prios {
		p.Prio[n] = int(prio)
	}
	for i, ctx := range c.contexts {
		p.Enable[i], p.Threshold[i] = int(ctx.enable), int(ctx.threshold)
	}
	return p
}

// best answers the source that is told to a context; 0, if there is none.
func (c *controller) best(ctx context) uint32 {
	told := c.pending & ctx.enable
	best := uint32(0)
	for n := range uint32(len(c.prios)) {
		// A later one has to be above the best one so far, so that the first of several stays.
		if told&only(n) != 0 && c.prios[n] > max(ctx.threshold, c.prios[best]) {
			best = n
		}
	}
	return best
}
