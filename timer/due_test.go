package timer

import (
	"math"
	"slices"
	"testing"

	"drawbridge/api"
)

// The chapter's example 1.
func TestDueExample(t *testing.T) {
	w := New()
	w.Set(5, 1)
	w.Set(3, 2)
	w.Set(5, 0)
	if got := w.Due(5); !slices.Equal(got, []api.Alarm{{At: 3, Id: 2}, {At: 5, Id: 0}, {At: 5, Id: 1}}) {
		t.Errorf("Due(5) = %v", got)
	}
	if got := w.All(); len(got) != 0 {
		t.Errorf("there stay %v", got)
	}
}

// P22.1: Due, told one by one: below, at and above each alarm's time; what was answered is gone, and what was not stays.
func TestDueExamples(t *testing.T) {
	list := []api.Alarm{{At: -3, Id: 4}, {At: 5, Id: -2}, {At: 5, Id: 0}, {At: 5, Id: 9}, {At: 8, Id: 1}}
	for _, c := range []struct {
		now  int
		many int
	}{
		{math.MinInt, 0}, {-4, 0}, {-3, 1}, {-2, 1}, {0, 1}, {4, 1}, {5, 4}, {6, 4}, {7, 4}, {8, 5}, {9, 5}, {math.MaxInt, 5},
	} {
		w := New()
		for _, i := range []int{3, 4, 1, 0, 2} {
			w.Set(list[i].At, list[i].Id)
		}
		if got := w.Due(c.now); !slices.Equal(got, list[:c.many]) {
			t.Errorf("Due(%d) = %v, not %v", c.now, got, list[:c.many])
		}
		if got := w.All(); !slices.Equal(got, list[c.many:]) {
			t.Errorf("behind Due(%d): %v, not %v", c.now, got, list[c.many:])
		}
		if got := w.Due(c.now); len(got) != 0 {
			t.Errorf("Due(%d) = %v the second time", c.now, got)
		}
		if got := w.Len(); got != len(list)-c.many {
			t.Errorf("behind Due(%d): %d alarms", c.now, got)
		}
		for i, a := range list {
			if was := w.Del(a.Id); was != (i >= c.many) {
				t.Errorf("behind Due(%d): Del(%d) = %v", c.now, a.Id, was)
			}
		}
	}
}

// P22.1: Due at each time about those of some, set in each order; several of one time come by rising id, and the rest behind them.
func TestDueEach(t *testing.T) {
	for n := range 7 {
		for _, order := range orders(n) {
			for _, time := range times() {
				list := alarms(order, time)
				for _, a := range append(list, api.Alarm{}) {
					for now := a.At - 1; now <= a.At+1; now++ {
						h := hold(t, list)
						h.due(now)
						h.look("Due")
						h.due(now)
						h.look("Due again")
						h.due(math.MaxInt)
						h.look("Due of all")
					}
				}
			}
		}
	}
}

// P22.1: alarms of one time, of ids in rising, falling and mixed order, below 0 too, come by rising id.
func TestDueSameTime(t *testing.T) {
	for n := range 70 {
		for _, order := range [][]int{rising(n), falling(n), mixed(n, 41)} {
			for _, at := range []int{math.MinInt, -1, 0, 1, math.MaxInt} {
				h := hold(t, nil)
				for _, x := range order {
					h.set(at, x-n/2)
				}
				h.look("Set")
				if at > math.MinInt {
					h.due(at - 1)
				}
				h.look("Due ahead")
				h.due(at)
				h.look("Due")
			}
		}
	}
	h := hold(t, nil)
	for _, id := range edges() {
		h.set(9, id)
	}
	h.due(9)
	h.look("Due")
}

// P22.1: what was due may be set again, at times that are past and that are to come.
func TestDueAgain(t *testing.T) {
	h := hold(t, alarms(mixed(40, 51), paired))
	for now := -5; now < 220; now += 5 {
		h.due(now)
		h.look("Due")
		h.set(now-3, now/5)
		h.set(now+7, now/5+1)
		h.look("Set")
		h.due(now)
		h.look("Due again")
	}
}

// P22.1: Due of all of 4096 at once, and of some after some.
func TestDueFull(t *testing.T) {
	for name, order := range orderings() {
		for _, time := range times() {
			list := alarms(order, time)
			h := hold(t, list)
			h.due(math.MaxInt)
			h.look("Due of all, " + name)
			h = hold(t, list)
			for now := -41000; now <= 41000; now += 4100 {
				h.due(now)
				h.look("Due, " + name)
			}
		}
	}
}

// P22.1: Next, told one by one: of none, of one and of many, and of several of one time the one of the least id.
func TestNextExamples(t *testing.T) {
	w := New()
	for _, c := range []struct {
		at   int
		id   int
		want api.Alarm
	}{
		{5, 7, api.Alarm{At: 5, Id: 7}},
		{6, 1, api.Alarm{At: 5, Id: 7}},
		{5, 8, api.Alarm{At: 5, Id: 7}},
		{5, 6, api.Alarm{At: 5, Id: 6}},
		{4, 9, api.Alarm{At: 4, Id: 9}},
		{4, -1, api.Alarm{At: 4, Id: -1}},
		{9, -1, api.Alarm{At: 4, Id: 9}},
		{9, 9, api.Alarm{At: 5, Id: 6}},
		{-1, 0, api.Alarm{At: -1, Id: 0}},
		{0, 0, api.Alarm{At: 0, Id: 0}},
		{math.MinInt, math.MaxInt, api.Alarm{At: math.MinInt, Id: math.MaxInt}},
		{math.MinInt, math.MinInt, api.Alarm{At: math.MinInt, Id: math.MinInt}},
	} {
		w.Set(c.at, c.id)
		if got, ok := w.Next(); got != c.want || !ok {
			t.Errorf("Set(%d, %d): Next() = %v, %v, not %v", c.at, c.id, got, ok, c.want)
		}
	}
	w.Due(math.MaxInt)
	if got, ok := w.Next(); got != (api.Alarm{}) || ok {
		t.Errorf("Next() of none = %v, %v", got, ok)
	}
}

// P22.1: Next is told also where the alarm is all zeros, which is another thing than none.
func TestNextZero(t *testing.T) {
	w := New()
	w.Set(0, 0)
	if got, ok := w.Next(); got != (api.Alarm{}) || !ok {
		t.Errorf("Next() = %v, %v", got, ok)
	}
	if !w.Del(0) {
		t.Error("Del(0) = false")
	}
	if got, ok := w.Next(); got != (api.Alarm{}) || ok {
		t.Errorf("Next() of none = %v, %v", got, ok)
	}
}

// P22.1: Next, All and Len take nothing away, however often they are asked.
func TestAskedStays(t *testing.T) {
	for _, n := range []int{0, 1, 2, 3, 10, 100, 4096} {
		h := hold(t, alarms(mixed(n, 61), turned))
		for range 20 {
			h.look("asking")
		}
		h.due(math.MaxInt)
		h.look("Due")
	}
}

// P22.1: All and Len of none, one, many and 4096: in order by time, then id, ids and times below 0 among them.
func TestAllExamples(t *testing.T) {
	list := []api.Alarm{
		{At: math.MinInt, Id: 3}, {At: -70, Id: 0}, {At: -1, Id: math.MinInt}, {At: -1, Id: -5}, {At: -1, Id: 4}, {At: 0, Id: -7}, {At: 0, Id: 1},
		{At: 1, Id: -1}, {At: 5, Id: -9}, {At: 5, Id: 2}, {At: 5, Id: 10}, {At: 5, Id: math.MaxInt}, {At: math.MaxInt, Id: -2},
	}
	for n := range len(list) + 1 {
		for seed := range uint64(20) {
			w := New()
			for _, i := range mixed(n, 100+seed) {
				w.Set(list[i].At, list[i].Id)
			}
			if got := w.All(); !slices.Equal(got, list[:n]) || w.Len() != n {
				t.Fatalf("All() = %v, Len() = %d", got, w.Len())
			}
		}
	}
}

// P22.1: All and Len of 4096, of ids and times below 0 and above.
func TestAllFull(t *testing.T) {
	h := hold(t, nil)
	for _, x := range mixed(4096, 71) {
		h.set((x*37%4096-2048)/5, x-2048)
	}
	h.look("Set")
	if h.w.Len() != 4096 {
		t.Errorf("Len() = %d", h.w.Len())
	}
}
