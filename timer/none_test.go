package timer

import (
	"math"
	"slices"
	"testing"

	"drawbridge/api"
)

// call is one that a wheel of no New answers zeros.
type call struct {
	name string
	zero func(w *Wheel) bool
}

// calls are all of them.
func calls() []call {
	var list []call
	for _, x := range []int{math.MinInt, -1, 0, 1, 5, math.MaxInt} {
		list = append(list,
			call{"Set", func(w *Wheel) bool { w.Set(x, 0); w.Set(0, x); return true }},
			call{"Del", func(w *Wheel) bool { return !w.Del(x) }},
			call{"Due", func(w *Wheel) bool { return len(w.Due(x)) == 0 }},
		)
	}
	return append(list,
		call{"Next", func(w *Wheel) bool { a, ok := w.Next(); return a == api.Alarm{} && !ok }},
		call{"All", func(w *Wheel) bool { return len(w.All()) == 0 }},
		call{"Len", func(w *Wheel) bool { return w.Len() == 0 }},
	)
}

// none are wheels that New did not give, each new.
func none() []*Wheel {
	copied := *New()
	filled := New()
	filled.Set(3, 4)
	later := *filled
	return []*Wheel{nil, {}, new(Wheel), &copied, &later}
}

// P22.1, R1: a wheel that is nil, or that New did not give, answers zeros: every call alone, and behind one and two others.
func TestNoWheel(t *testing.T) {
	list := calls()
	for which := range none() {
		for _, a := range list {
			if w := none()[which]; !a.zero(w) {
				t.Fatalf("wheel %d: %s is not zero", which, a.name)
			}
			for _, b := range list {
				w := none()[which]
				if !a.zero(w) || !b.zero(w) {
					t.Fatalf("wheel %d: %s, %s are not zero", which, a.name, b.name)
				}
				for _, c := range list {
					if w := none()[which]; !a.zero(w) || !b.zero(w) || !c.zero(w) {
						t.Fatalf("wheel %d: %s, %s, %s are not zero", which, a.name, b.name, c.name)
					}
				}
			}
		}
	}
}

// P22.1, R1: a wheel that New did not give is not changed: it is a zero value behind each call.
func TestNoWheelStays(t *testing.T) {
	for _, c := range calls() {
		var w Wheel
		c.zero(&w)
		if w != (Wheel{}) {
			t.Errorf("%s changes a wheel that New did not give", c.name)
		}
	}
}

// P22.1, R4: what is done to a copy of a wheel is not done to the wheel, which goes on as it was.
func TestCopyApart(t *testing.T) {
	h := hold(t, alarms(mixed(30, 95), paired))
	for _, c := range calls() {
		other := *h.w
		c.zero(&other)
		h.look(c.name + " of a copy")
	}
	h.due(100)
	h.look("Due")
}

// P22.1: calls of wheels that New did not give are nothing to one that it gave.
func TestNoWheelApart(t *testing.T) {
	h := hold(t, []api.Alarm{{At: 1, Id: 5}, {At: 0, Id: 0}})
	for _, w := range none() {
		for _, c := range calls() {
			c.zero(w)
			h.look(c.name + " of a wheel that New did not give")
		}
	}
	if got := h.w.Due(1); !slices.Equal(got, []api.Alarm{{At: 0, Id: 0}, {At: 1, Id: 5}}) {
		t.Errorf("Due(1) = %v", got)
	}
}
