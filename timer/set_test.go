package timer

import (
	"math"
	"slices"
	"testing"

	"drawbridge/api"
)

// P22.1: New has no alarms: each call alone on a new one.
func TestNewEmpty(t *testing.T) {
	if got := New().All(); len(got) != 0 {
		t.Errorf("All() = %v", got)
	}
	if got := New().Len(); got != 0 {
		t.Errorf("Len() = %d", got)
	}
	if got, ok := New().Next(); ok || got != (api.Alarm{}) {
		t.Errorf("Next() = %v, %v", got, ok)
	}
	for _, x := range edges() {
		if New().Del(x) {
			t.Errorf("Del(%d) of none", x)
		}
		if got := New().Due(x); len(got) != 0 {
			t.Errorf("Due(%d) = %v", x, got)
		}
		w := New()
		w.Set(x, x)
		if got := w.All(); !slices.Equal(got, []api.Alarm{{At: x, Id: x}}) {
			t.Errorf("Set(%d, %d): %v", x, x, got)
		}
	}
}

// P22.1, R4: wheels know nothing of one another: what is done to one is not done to the other, nor to one that is made then.
func TestWheelsApart(t *testing.T) {
	one, two := hold(t, nil), hold(t, nil)
	if one.w == two.w {
		t.Fatal("New answers the same wheel twice")
	}
	next := chance(3)
	for range 2000 {
		one.set(next(50), next(20))
		two.set(next(50), next(20))
		one.del(next(20))
		two.due(next(50))
		one.look("calls of both")
		two.look("calls of both")
		hold(t, nil)
	}
}

// P22.1: Set of an id that there is none of: in each order of some, with times that rise and fall with the ids, and the same ones.
func TestSetNew(t *testing.T) {
	for n := range 7 {
		for _, order := range orders(n) {
			for _, time := range times() {
				h := hold(t, nil)
				for _, a := range alarms(order, time) {
					h.set(a.At, a.Id)
					h.look("Set")
				}
			}
		}
	}
}

// P22.1: Set of an id that there is one of: each of some, at each time ahead of, at, between and behind those of the others; no other alarm is another then.
func TestSetAgain(t *testing.T) {
	for n := 1; n < 7; n++ {
		for _, order := range orders(n) {
			for id := range n {
				for at := -5; at <= 10*n; at += 5 {
					h := hold(t, alarms(order, straight))
					h.set(at, id)
					h.look("Set")
					h.due(math.MaxInt)
				}
			}
		}
	}
}

// P22.1: Set at an earlier, the same and a later time, told one by one.
func TestSetExamples(t *testing.T) {
	for _, c := range []struct {
		at   int
		want []api.Alarm
	}{
		{4, []api.Alarm{{At: 4, Id: 2}, {At: 5, Id: 1}, {At: 9, Id: 3}}},
		{5, []api.Alarm{{At: 5, Id: 1}, {At: 5, Id: 2}, {At: 9, Id: 3}}},
		{7, []api.Alarm{{At: 5, Id: 1}, {At: 7, Id: 2}, {At: 9, Id: 3}}},
		{9, []api.Alarm{{At: 5, Id: 1}, {At: 9, Id: 2}, {At: 9, Id: 3}}},
		{10, []api.Alarm{{At: 5, Id: 1}, {At: 9, Id: 3}, {At: 10, Id: 2}}},
	} {
		w := New()
		w.Set(9, 3)
		w.Set(7, 2)
		w.Set(5, 1)
		w.Set(c.at, 2)
		if got := w.All(); !slices.Equal(got, c.want) {
			t.Errorf("Set(%d, 2): %v, not %v", c.at, got, c.want)
		}
		if got := w.Len(); got != 3 {
			t.Errorf("Set(%d, 2): %d alarms", c.at, got)
		}
	}
}

// P22.1: Set again and again of the same ids: the last time counts.
func TestSetOften(t *testing.T) {
	next := chance(11)
	h := hold(t, nil)
	for range 5000 {
		h.set(next(40)-20, next(12)-6)
		h.look("Set")
	}
}

// P22.1: times and ids below 0, of 0, the least and the greatest, and those about the ends of other sizes, each with each.
func TestSetEdges(t *testing.T) {
	all := hold(t, nil)
	for _, at := range edges() {
		for _, id := range edges() {
			alone := hold(t, []api.Alarm{{At: at, Id: id}})
			alone.set(0, 0)
			alone.set(-at, id)
			alone.look("Set")
			alone.set(at, id)
			alone.look("Set")
			all.set(at, id)
			all.look("Set")
		}
	}
	all.due(math.MinInt)
	all.due(math.MaxInt - 1)
	all.look("Due")
	all.due(math.MaxInt)
	all.look("Due")
}

// P22.1: two alarms of edges of times and ids come by time, then id.
func TestSetTwo(t *testing.T) {
	list := edges()
	for i, x := range list {
		for j, y := range list {
			if i == j {
				continue
			}
			h := hold(t, []api.Alarm{{At: x, Id: 1}, {At: y, Id: 2}})
			h.due(min(x, y))
			h.look("Due")
			h = hold(t, []api.Alarm{{At: 5, Id: x}, {At: 5, Id: y}})
			h.due(5)
			h.look("Due")
			h = hold(t, []api.Alarm{{At: x, Id: y}, {At: y, Id: x}})
			h.due(max(x, y) - 1)
			h.look("Due")
		}
	}
}

// orderings are orders of as many ids as there may be alarms.
func orderings() map[string][]int {
	return map[string][]int{"rising": rising(4096), "falling": falling(4096), "mixed": mixed(4096, 9)}
}

// P22.1: the 4096th alarm is set, and the 4097th is not, whatever its time and its id; one that there is may be set again.
func TestSetMost(t *testing.T) {
	for name, order := range orderings() {
		list := alarms(order, paired)
		h := hold(t, list[:4095])
		h.set(list[4095].At, list[4095].Id)
		h.look("the 4096th, " + name)
		if h.w.Len() != 4096 {
			t.Fatalf("%s: %d alarms", name, h.w.Len())
		}
		for _, at := range []int{math.MinInt, -1, 0, 5, 20000, 20480, math.MaxInt} {
			for _, id := range []int{math.MinInt, -4096, -1, 4096, 4097, 8191, math.MaxInt} {
				h.set(at, id)
				h.first("the 4097th")
				h.del(id)
			}
		}
		h.look("the 4097th, " + name)
		for i, id := range []int{order[0], order[2048], order[4095], 0, 4095, 1, 17} {
			h.set([]int{math.MinInt, -1, 0, 5, 20000, 20480, math.MaxInt}[i], id)
			h.look("one set again, " + name)
		}
		h.due(math.MaxInt)
	}
}

// P22.1: where one of 4096 is gone there is room for one, and for no other.
func TestSetRoom(t *testing.T) {
	h := hold(t, full())
	for _, id := range []int{0, 4095, 2000} {
		h.del(id)
		h.set(3, 5000+id)
		h.set(2, 6000+id)
		h.look("Del of one")
	}
	h.due(0)
	for len(h.told) < 4096 {
		h.set(1, 10000+len(h.told))
	}
	h.look("as many as had gone")
	h.set(0, -9)
	h.look("one more")
	h.due(math.MaxInt)
	h.set(0, -9)
	h.look("Due of all")
}

// P22.1: of 4096 each is set again, in mixed orders, to times by chance: no other is another then.
func TestSetFull(t *testing.T) {
	h := hold(t, full())
	next := chance(21)
	for i, id := range mixed(4096, 22) {
		h.set(next(3000)-500, id)
		h.first("one set again")
		if i%256 == 0 {
			h.look("one set again")
		}
	}
	h.look("all set again")
	h.due(math.MaxInt)
}
