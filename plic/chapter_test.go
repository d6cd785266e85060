package plic

import (
	"cmp"
	"fmt"
	"math"
	"slices"

	"drawbridge/api"
)

// ones is a number of all bits, above one of all bits above the lowest 32.
const (
	ones  = math.MaxUint64
	above = ones - 1<<32 + 1
)

// levels and sets are what the chapter lets priorities and thresholds be, and what it lets bits of sources be.
var (
	levels = []int{0, 1, 2, 3, 4, 5, 6, 7}
	sets   = []int{0, 2, 4, 6}
)

// has tells whether bit n of x is 1.
func has(x int, n int) bool { return x>>n&1 == 1 }

// setWith and setWithout answer bits of sources with n, and without it. They go by sums, as the program does not.
func setWith(x int, n int) int {
	if !has(x, n) {
		x += 2 * n
	}
	return x
}

func setWithout(x int, n int) int {
	if has(x, n) {
		x -= 2 * n
	}
	return x
}

// checkOf answers what Check has to answer.
func checkOf(p api.Plic) bool {
	if len(p.Prio) != 3 || len(p.Enable) != 2 || len(p.Threshold) != 2 || p.Prio[0] != 0 {
		return false
	}
	for _, x := range slices.Concat(p.Prio, p.Threshold) {
		if !slices.Contains(levels, x) {
			return false
		}
	}
	for _, x := range append([]int{p.Pending, p.Claimed}, p.Enable...) {
		if !slices.Contains(sets, x) {
			return false
		}
	}
	return true
}

// setOf answers what Set has to answer.
func setOf(p api.Plic, lines int) api.Plic {
	p = copyOf(p)
	for _, n := range []int{1, 2} {
		if checkOf(p) && has(lines, n) && !has(p.Claimed, n) {
			p.Pending = setWith(p.Pending, n)
		}
	}
	return p
}

// bestOf answers what Best has to answer: the first one of those that are told, sorted.
func bestOf(p api.Plic, ctx int) int {
	if !checkOf(p) || ctx != 0 && ctx != 1 {
		return 0
	}
	var told []int
	for _, n := range []int{1, 2} {
		if has(p.Pending, n) && has(p.Enable[ctx], n) && p.Prio[n] > p.Threshold[ctx] {
			told = append(told, n)
		}
	}
	if told == nil {
		return 0
	}
	slices.SortStableFunc(told, func(a, b int) int { return cmp.Compare(p.Prio[b], p.Prio[a]) })
	return told[0]
}

// place is a place of what the chapter tells: what is loaded there, and what is left when x, of 32 bits, is stored there.
type place struct {
	name  string
	off   uint64
	load  func(p *api.Plic) int
	store func(p *api.Plic, x uint64)
}

var table = []place{
	{"Prio of 1", 0x4, func(p *api.Plic) int { return p.Prio[1] }, func(p *api.Plic, x uint64) { p.Prio[1] = int(x % 8) }},
	{"Prio of 2", 0x8, func(p *api.Plic) int { return p.Prio[2] }, func(p *api.Plic, x uint64) { p.Prio[2] = int(x % 8) }},
	{"Pending", 0x1000, func(p *api.Plic) int { return p.Pending }, func(*api.Plic, uint64) {}},
	{"Enable of 0", 0x2000, func(p *api.Plic) int { return p.Enable[0] }, func(p *api.Plic, x uint64) { p.Enable[0] = int(x % 8 / 2 * 2) }},
	{"Enable of 1", 0x2080, func(p *api.Plic) int { return p.Enable[1] }, func(p *api.Plic, x uint64) { p.Enable[1] = int(x % 8 / 2 * 2) }},
	{"Threshold of 0", 0x200000, func(p *api.Plic) int { return p.Threshold[0] }, func(p *api.Plic, x uint64) { p.Threshold[0] = int(x % 8) }},
	{"Threshold of 1", 0x201000, func(p *api.Plic) int { return p.Threshold[1] }, func(p *api.Plic, x uint64) { p.Threshold[1] = int(x % 8) }},
	{"claims of 0", 0x200004, func(p *api.Plic) int { return claimOf(p, 0) }, func(p *api.Plic, x uint64) { giveBackOf(p, 0, x) }},
	{"claims of 1", 0x201004, func(p *api.Plic) int { return claimOf(p, 1) }, func(p *api.Plic, x uint64) { giveBackOf(p, 1, x) }},
}

// claimOf claims what is told to a context.
func claimOf(p *api.Plic, ctx int) int {
	best := bestOf(*p, ctx)
	if best != 0 {
		p.Pending, p.Claimed = setWithout(p.Pending, best), setWith(p.Claimed, best)
	}
	return best
}

// giveBackOf gives the source x back.
func giveBackOf(p *api.Plic, ctx int, x uint64) {
	for _, n := range []int{1, 2} {
		if x == uint64(n) && has(p.Enable[ctx], n) {
			p.Claimed = setWithout(p.Claimed, n)
		}
	}
}

// placeAt answers the place at off, and whether there is one of that size.
func placeAt(off uint64, size int) (place, bool) {
	for _, at := range table {
		if at.off == off && size == 4 {
			return at, true
		}
	}
	return place{}, false
}

// loadOf answers what Load has to answer.
func loadOf(p api.Plic, off uint64, size int) (uint64, api.Plic, bool) {
	p = copyOf(p)
	at, ok := placeAt(off, size)
	if !ok || !checkOf(p) {
		return 0, p, false
	}
	x := at.load(&p)
	return uint64(x), p, true
}

// storeOf answers what Store has to answer.
func storeOf(p api.Plic, off uint64, size int, x uint64) (api.Plic, bool) {
	p = copyOf(p)
	at, ok := placeAt(off, size)
	if !ok || !checkOf(p) {
		return p, false
	}
	at.store(&p, x%(1<<32))
	return p, true
}

// copyOf answers a controller like p that shares nothing with it.
func copyOf(p api.Plic) api.Plic {
	for _, row := range rowsOf(&p) {
		*row = append([]int(nil), *row...)
	}
	return p
}

// rowsOf answers the three rows of a controller.
func rowsOf(p *api.Plic) []*[]int { return []*[]int{&p.Prio, &p.Enable, &p.Threshold} }

// same tells whether two controllers are the same; rows that are nil and rows that are empty are.
func same(a api.Plic, b api.Plic) bool {
	return a.Pending == b.Pending && a.Claimed == b.Claimed &&
		slices.Equal(a.Prio, b.Prio) && slices.Equal(a.Enable, b.Enable) && slices.Equal(a.Threshold, b.Threshold)
}

// tell answers a controller as a text.
func tell(p api.Plic) string {
	return fmt.Sprintf("{Prio %v, Pending %d, Claimed %d, Enable %v, Threshold %v}", p.Prio, p.Pending, p.Claimed, p.Enable, p.Threshold)
}

// plicOf answers a controller of these numbers.
func plicOf(prio1, prio2, pending, claimed, enable0, enable1, threshold0, threshold1 int) api.Plic {
	return api.Plic{
		Prio: []int{0, prio1, prio2}, Pending: pending, Claimed: claimed,
		Enable: []int{enable0, enable1}, Threshold: []int{threshold0, threshold1},
	}
}

// each calls f with all controllers that have these priorities and thresholds. What f is given is changed behind it.
func each(prios []int, thresholds []int, f func(p api.Plic)) {
	p := plicOf(0, 0, 0, 0, 0, 0, 0, 0)
	for _, x := range combined(prios, prios, sets, sets, sets, sets, thresholds, thresholds) {
		p.Prio[1], p.Prio[2], p.Pending, p.Claimed = x[0], x[1], x[2], x[3]
		p.Enable[0], p.Enable[1], p.Threshold[0], p.Threshold[1] = x[4], x[5], x[6], x[7]
		f(p)
	}
}

// combined goes along all choices of one number of each list.
func combined(lists ...[]int) func(yield func(int, []int) bool) {
	return func(yield func(int, []int) bool) {
		at, x := make([]int, len(lists)), make([]int, len(lists))
		for n := 0; ; n++ {
			for i, list := range lists {
				x[i] = list[at[i]]
			}
			if !yield(n, x) {
				return
			}
			i := 0
			for ; i < len(lists); i++ {
				if at[i]++; at[i] < len(lists[i]) {
					break
				}
				at[i] = 0
			}
			if i == len(lists) {
				return
			}
		}
	}
}

// some are controllers that may be: with nothing, with everything, and such as tell their numbers apart.
func some() []api.Plic {
	list := []api.Plic{
		New(),
		plicOf(7, 7, 6, 6, 6, 6, 7, 7),
		plicOf(7, 7, 6, 0, 6, 6, 0, 0),
		plicOf(1, 2, 2, 4, 4, 6, 3, 5),
		plicOf(3, 5, 6, 0, 2, 4, 1, 2),
		plicOf(5, 3, 6, 0, 6, 6, 4, 2),
		plicOf(6, 4, 0, 6, 2, 4, 0, 1),
		plicOf(4, 6, 0, 6, 4, 2, 1, 0),
	}
	next := chance()
	for range 24 {
		list = append(list, byChance(next))
	}
	return list
}

// byChance answers a controller that may be.
func byChance(next func() int) api.Plic {
	return plicOf(next()%8, next()%8, next()%4*2, next()%4*2, next()%4*2, next()%4*2, next()%8, next()%8)
}

// wrongOnes are controllers that may not be, by what is wrong with them.
func wrongOnes() map[string]api.Plic {
	list := map[string]api.Plic{"all zero": {}}
	for n, x := range []int{-1, 8, 9, 255, math.MinInt, math.MaxInt} {
		list["first Prio "+fmt.Sprint(n)] = with(func(p *api.Plic) { p.Prio[0] = x })
		list["second Prio "+fmt.Sprint(n)] = with(func(p *api.Plic) { p.Prio[1] = x })
		list["third Prio "+fmt.Sprint(n)] = with(func(p *api.Plic) { p.Prio[2] = x })
		list["first Threshold "+fmt.Sprint(n)] = with(func(p *api.Plic) { p.Threshold[0] = x })
		list["second Threshold "+fmt.Sprint(n)] = with(func(p *api.Plic) { p.Threshold[1] = x })
	}
	for n, x := range []int{1, 3, 7, 8, 14, 64, -1, -2, -8, 1<<32 + 2, math.MinInt, math.MaxInt} {
		list["Pending "+fmt.Sprint(n)] = with(func(p *api.Plic) { p.Pending = x })
		list["Claimed "+fmt.Sprint(n)] = with(func(p *api.Plic) { p.Claimed = x })
		list["first Enable "+fmt.Sprint(n)] = with(func(p *api.Plic) { p.Enable[0] = x })
		list["second Enable "+fmt.Sprint(n)] = with(func(p *api.Plic) { p.Enable[1] = x })
	}
	for n, row := range [][]int{nil, {}, {0}, {0, 2}, {0, 2, 2}, {0, 2, 2, 2}} {
		if len(row) != 3 {
			list["row of Prio "+fmt.Sprint(n)] = with(func(p *api.Plic) { p.Prio = row })
		}
		if len(row) != 2 {
			list["row of Enable "+fmt.Sprint(n)] = with(func(p *api.Plic) { p.Enable = row })
			list["row of Threshold "+fmt.Sprint(n)] = with(func(p *api.Plic) { p.Threshold = row })
		}
	}
	list["first Prio 1"] = with(func(p *api.Plic) { p.Prio[0] = 1 })
	list["first Prio 7"] = with(func(p *api.Plic) { p.Prio[0] = 7 })
	return list
}

// with answers a controller of which everything could be told, loaded and stored, changed by f.
func with(f func(p *api.Plic)) api.Plic {
	p := plicOf(7, 6, 6, 6, 6, 6, 0, 1)
	f(&p)
	return p
}

// sizes are those that there are not, such among them as could be taken for 4.
var sizes = []int{
	0, 1, 2, 3, 5, 6, 7, 8, 12, 16, 32, 64, 256, 260, 1 << 16, 1<<16 + 4, 1 << 32, 1<<32 + 4, 1<<62 + 4, math.MaxInt - 3, math.MaxInt,
	-1, -2, -4, -8, -252, -1<<32 + 4, math.MinInt, math.MinInt + 4,
}

// beside are places near those that there are, and far ones, such among them as are those that there are where they are cut to fewer bits.
func beside() []uint64 {
	list := []uint64{0, 1, 0x100c, 0x1004, 0xffc, 0x3000, 0x2100, 0x202000, 0x202004, 0x400000, 1<<32 - 1, 1 << 32, 1<<63 - 1, 1 << 63, ones - 8, ones - 7, ones - 4, ones - 3, ones - 1, ones}
	for _, at := range table {
		for n := range uint64(16) {
			list = append(list, at.off+n, at.off-n)
		}
		for bit := range 64 {
			list = append(list, at.off^1<<bit)
		}
		list = append(list, ^at.off, -at.off)
	}
	return slices.DeleteFunc(list, func(off uint64) bool {
		_, ok := placeAt(off, 4)
		return ok
	})
}

// numbers are stored: small ones, each bit alone, all but one, and such as are small in their lowest 32 bits alone.
func numbers() []uint64 {
	list := []uint64{ones, ones - 1, 1<<32 - 1, above, 0x5555555555555555, 0xaaaaaaaaaaaaaaaa, 0x0123456789abcdef}
	for x := range uint64(20) {
		list = append(list, x, 1<<32+x, above+x, x<<32, 1<<63+x, -x, x<<3+1, x<<3+2)
	}
	for bit := range 64 {
		list = append(list, 1<<bit, ones-1<<bit, 1<<bit+1, 1<<bit+2)
	}
	return list
}

// chance answers numbers from 0 on that no rule of the program would make, always the same ones.
func chance() func() int {
	x := uint64(0x9e3779b97f4a7c15)
	return func() int {
		x ^= x << 13
		x ^= x >> 7
		x ^= x << 17
		return int(x >> 1)
	}
}
