package timer

import (
	"math"
	"slices"
	"testing"

	"drawbridge/api"
)

// P22.1: Del, told one by one: whether there was one, and that all others stay.
func TestDelExamples(t *testing.T) {
	list := []api.Alarm{{At: -3, Id: 4}, {At: 5, Id: -2}, {At: 5, Id: 0}, {At: 8, Id: 1}}
	for _, c := range []struct {
		id   int
		was  bool
		want []api.Alarm
	}{
		{4, true, []api.Alarm{{At: 5, Id: -2}, {At: 5, Id: 0}, {At: 8, Id: 1}}},
		{-2, true, []api.Alarm{{At: -3, Id: 4}, {At: 5, Id: 0}, {At: 8, Id: 1}}},
		{0, true, []api.Alarm{{At: -3, Id: 4}, {At: 5, Id: -2}, {At: 8, Id: 1}}},
		{1, true, []api.Alarm{{At: -3, Id: 4}, {At: 5, Id: -2}, {At: 5, Id: 0}}},
		{-3, false, list},
		{5, false, list},
		{8, false, list},
		{2, false, list},
		{-4, false, list},
		{math.MinInt, false, list},
		{math.MaxInt, false, list},
	} {
		w := New()
		for _, i := range []int{2, 0, 3, 1} {
			w.Set(list[i].At, list[i].Id)
		}
		if was := w.Del(c.id); was != c.was {
			t.Errorf("Del(%d) = %v", c.id, was)
		}
		if got := w.All(); !slices.Equal(got, c.want) {
			t.Errorf("Del(%d): %v, not %v", c.id, got, c.want)
		}
		if w.Del(c.id) {
			t.Errorf("Del(%d) = true the second time", c.id)
		}
		if got := w.All(); !slices.Equal(got, c.want) {
			t.Errorf("Del(%d) twice: %v, not %v", c.id, got, c.want)
		}
	}
}

// P22.1: Del of the only one.
func TestDelOnly(t *testing.T) {
	for _, x := range edges() {
		h := hold(t, []api.Alarm{{At: 3, Id: x}})
		for _, other := range edges() {
			if other != x {
				h.del(other)
				h.look("Del of another id")
			}
		}
		h.del(x)
		h.look("Del of the only one")
		h.del(x)
		h.due(math.MaxInt)
	}
}

// P22.1: Del of each of some, set in each order, and of the same one twice; what stays may be set, deleted and taken as before.
func TestDelEach(t *testing.T) {
	for n := range 7 {
		for _, order := range orders(n) {
			for _, time := range times() {
				for id := -1; id <= n; id++ {
					h := hold(t, alarms(order, time))
					h.del(id)
					h.look("Del")
					h.del(id)
					h.look("Del again")
					h.set(time(id), id)
					h.look("Set again")
					h.due(math.MaxInt)
				}
			}
		}
	}
}

// P22.1: Del of all of some in each order, where they were set in rising, falling and mixed order.
func TestDelAll(t *testing.T) {
	for n := 1; n < 7; n++ {
		for _, sets := range [][]int{rising(n), falling(n), mixed(n, 4)} {
			for _, dels := range orders(n) {
				for _, time := range times() {
					h := hold(t, alarms(sets, time))
					for _, id := range dels {
						h.del(id)
						h.look("Del")
					}
				}
			}
		}
	}
}

// P22.1: Del of many in rising, falling and mixed order: whichever goes, the others stay.
func TestDelMany(t *testing.T) {
	const n = 200
	for _, sets := range [][]int{rising(n), falling(n), mixed(n, 31), mixed(n, 32)} {
		for _, dels := range [][]int{rising(n), falling(n), mixed(n, 33), mixed(n, 34)} {
			for _, time := range times() {
				h := hold(t, alarms(sets, time))
				for _, id := range dels {
					h.del(id)
					h.look("Del")
					h.del(id)
				}
			}
		}
	}
}

// P22.1: Del of 4096, in rising, falling and mixed order.
func TestDelFull(t *testing.T) {
	for _, order := range orderings() {
		h := hold(t, full())
		for i, id := range order {
			h.del(id)
			h.first("Del")
			if i%256 == 0 {
				h.look("Del")
			}
		}
		h.look("Del of all")
	}
}
