package timer

import (
	"math"
	"slices"
	"testing"

	"drawbridge/api"
)

// telling is the chapter told again: all alarms, always in their order.
type telling []api.Alarm

// ahead tells whether a comes ahead of b.
func ahead(a api.Alarm, b api.Alarm) bool {
	if a.At == b.At {
		return a.Id < b.Id
	}
	return a.At < b.At
}

// without answers the alarms that are not of id.
func (l telling) without(id int) telling {
	for i, a := range l {
		if a.Id == id {
			return slices.Concat(l[:i], l[i+1:])
		}
	}
	return l
}

// with answers what Set makes of the alarms.
func (l telling) with(at int, id int) telling {
	others := l.without(id)
	if len(others) >= 4096 {
		return l
	}
	a := api.Alarm{At: at, Id: id}
	place := 0
	for place < len(others) && ahead(others[place], a) {
		place++
	}
	return slices.Concat(others[:place], telling{a}, others[place:])
}

// parted answers the alarms that are due, and the others.
func (l telling) parted(now int) (telling, telling) {
	for i, a := range l {
		if a.At > now {
			return l[:i], l[i:]
		}
	}
	return l, nil
}

// held is a wheel, and the chapter's telling of it, which it is held against.
type held struct {
	t    *testing.T
	w    *Wheel
	told telling
}

// hold answers a wheel with alarms that are set one by one.
func hold(t *testing.T, list []api.Alarm) *held {
	t.Helper()
	h := &held{t: t, w: New()}
	for _, a := range list {
		h.w.Set(a.At, a.Id)
		h.told = h.told.with(a.At, a.Id)
	}
	h.look("Set")
	return h
}

// look tells of a wheel that is not as the chapter tells it; what it asks takes nothing away.
func (h *held) look(what string) {
	h.t.Helper()
	if got := h.w.All(); !slices.Equal(got, h.told) {
		h.t.Fatalf("behind %s: All() = %v, not %v", what, got, h.told)
	}
	h.first(what)
	if got := h.w.Len(); got != len(h.told) {
		h.t.Fatalf("behind %s: Len() = %d, not %d", what, got, len(h.told))
	}
}

// first tells of a Next that is not as the chapter has it.
func (h *held) first(what string) {
	h.t.Helper()
	got, ok := h.w.Next()
	var want api.Alarm
	if len(h.told) > 0 {
		want = h.told[0]
	}
	if got != want || ok != (len(h.told) > 0) {
		h.t.Fatalf("behind %s: Next() = %v, %v of %v", what, got, ok, h.told)
	}
}

// set, del and due make a call of both, and tell of an answer that is not as the chapter has it.
func (h *held) set(at int, id int) {
	h.t.Helper()
	h.w.Set(at, id)
	h.told = h.told.with(at, id)
}

func (h *held) del(id int) {
	h.t.Helper()
	got, before := h.w.Del(id), len(h.told)
	h.told = h.told.without(id)
	if got != (len(h.told) < before) {
		h.t.Fatalf("Del(%d) = %v; there stay %v", id, got, h.told)
	}
}

func (h *held) due(now int) {
	h.t.Helper()
	got := h.w.Due(now)
	want, rest := h.told.parted(now)
	if !slices.Equal(got, want) {
		h.t.Fatalf("Due(%d) = %v, not %v", now, got, want)
	}
	h.told = rest
}

// chance answers numbers that no rule of the program would make, always the same ones of a seed.
func chance(seed uint64) func(most int) int {
	x := seed*0x9e3779b97f4a7c15 + 1
	return func(most int) int {
		x ^= x << 13
		x ^= x >> 7
		x ^= x << 17
		return int(x>>1) % most
	}
}

// edges are numbers about those at which sizes of numbers end, in rising order.
func edges() []int {
	return []int{
		math.MinInt, math.MinInt + 1, math.MinInt + 2, -1<<62 - 1, -1<<33 - 1, -1<<32 - 1, -1 << 32, -1<<31 - 1, math.MinInt32, -65537, -4097, -4096, -256, -2, -1,
		0, 1, 2, 255, 4095, 4096, 4097, 65536, math.MaxInt32, 1 << 31, 1<<32 - 1, 1 << 32, 1<<32 + 1, 1<<62 + 1, math.MaxInt - 1, math.MaxInt,
	}
}

// orders answers all orders of the numbers from 0 to n - 1.
func orders(n int) [][]int {
	if n == 0 {
		return [][]int{{}}
	}
	var all [][]int
	for _, order := range orders(n - 1) {
		for place := range n {
			all = append(all, slices.Insert(slices.Clone(order), place, n-1))
		}
	}
	return all
}

// mixed answers the numbers from 0 to n - 1 by chance.
func mixed(n int, seed uint64) []int {
	next := chance(seed)
	order := make([]int, n)
	for i := range order {
		j := next(i + 1)
		order[i] = order[j]
		order[j] = i
	}
	return order
}

// rising and falling answer the numbers from 0 to n - 1 in such order.
func rising(n int) []int {
	order := make([]int, n)
	for i := range order {
		order[i] = i
	}
	return order
}

func falling(n int) []int {
	order := rising(n)
	slices.Reverse(order)
	return order
}

// alarms answers ones with these ids, each of a time that time makes of its id.
func alarms(ids []int, time func(id int) int) []api.Alarm {
	var list []api.Alarm
	for _, id := range ids {
		list = append(list, api.Alarm{At: time(id), Id: id})
	}
	return list
}

// straight, turned, same and paired are times of ids: they rise with them, fall with them, are the same, and the same of two each.
func straight(id int) int { return 10 * id }

func turned(id int) int { return -10 * id }

func same(int) int { return 7 }

func paired(id int) int { return id / 2 * 10 }

// times are all of them.
func times() []func(id int) int {
	return []func(id int) int{straight, turned, same, paired}
}

// full answers as many alarms as may be, in a mixed order of ids and of times.
func full() []api.Alarm {
	when := mixed(4096, 5)
	return alarms(mixed(4096, 6), func(id int) int { return when[id] / 3 })
}
