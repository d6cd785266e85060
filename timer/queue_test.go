package timer

import (
	"container/heap"
	"maps"
	"math"
	"slices"
	"testing"

	"drawbridge/api"
)

// panics tells whether something panics.
func panics(do func()) (did bool) {
	defer func() { did = recover() != nil }()
	do()
	return false
}

// queued answers a queue of some alarms.
func queued(n int) *queue {
	q := newQueue()
	for _, a := range alarms(mixed(n, 7), paired) {
		q.set(alarm{a})
	}
	return q
}

// Push panics of what is no alarm, as its remark says, and changes nothing then.
func TestPushPanics(t *testing.T) {
	for n := range 5 {
		for _, x := range []any{nil, 0, 5, "alarm", true, api.Alarm{}, api.Alarm{At: 1, Id: 2}, &alarm{}, &api.Alarm{}, []alarm{{}}, []alarm{}, struct{ api.Alarm }{}, struct{}{}, queued(1)} {
			for name, do := range map[string]func(q *queue){
				"Push":      func(q *queue) { q.Push(x) },
				"heap.Push": func(q *queue) { heap.Push(q, x) },
			} {
				q := queued(n)
				list, places := slices.Clone(q.list), maps.Clone(q.places)
				if !panics(func() { do(q) }) {
					t.Errorf("%s(%v) does not panic", name, x)
				}
				if !slices.Equal(list, q.list) || !maps.Equal(places, q.places) {
					t.Errorf("%s(%v) changes the queue", name, x)
				}
			}
		}
	}
}

// Push takes an alarm, and does not panic.
func TestPushTakes(t *testing.T) {
	for n := range 5 {
		for _, a := range []alarm{{}, {api.Alarm{At: -1, Id: -2}}, {api.Alarm{At: math.MaxInt, Id: math.MinInt}}} {
			q := queued(n)
			q.del(a.Id)
			long := q.Len()
			if panics(func() { q.Push(a) }) {
				t.Fatalf("Push(%v) panics", a)
			}
			if q.Len() != long+1 || q.list[long] != a || q.places[a.Id] != long {
				t.Errorf("Push(%v): %v", a, q)
			}
		}
	}
}

// Pop panics where there is no alarm, as its remark says, and changes nothing then; of any other it answers the one at the end.
func TestPopPanics(t *testing.T) {
	q := newQueue()
	if !panics(func() { q.Pop() }) || q.Len() != 0 || len(q.places) != 0 {
		t.Errorf("Pop of none: %v", q)
	}
	for n := 1; n < 6; n++ {
		q := queued(n)
		end := q.list[n-1]
		if got := q.Pop(); got != any(end) {
			t.Errorf("Pop() = %v, not %v", got, end)
		}
		if _, ok := q.places[end.Id]; ok || q.Len() != n-1 || len(q.places) != n-1 {
			t.Errorf("Pop: %v", q)
		}
	}
}

// Each alarm stands at the place that is told for its id, no place is told of others, and no alarm stands ahead of one that is due sooner.
func TestPlaces(t *testing.T) {
	next := chance(97)
	q := newQueue()
	for range 20000 {
		id := next(50)
		switch next(5) {
		case 0:
			q.del(id)
		case 1:
			now := alarm{api.Alarm{At: next(4), Id: id}}
			q.takeUntil(now.before)
		default:
			q.set(alarm{api.Alarm{At: next(90), Id: id}})
		}
		if len(q.places) != len(q.list) {
			t.Fatalf("%d places of %d alarms", len(q.places), len(q.list))
		}
		for i, a := range q.list {
			if place, ok := q.places[a.Id]; !ok || place != i {
				t.Fatalf("%v at %d has the place %d, %v", a, i, place, ok)
			}
			if i > 0 && ahead(a.Alarm, q.list[(i-1)/2].Alarm) {
				t.Fatalf("%v stands behind %v", a, q.list[(i-1)/2])
			}
		}
	}
}

// An alarm is ahead of all others of a later time, or of the same one with a greater id, and of no other.
func TestCompare(t *testing.T) {
	var list []alarm
	for _, at := range edges() {
		for _, id := range edges() {
			list = append(list, alarm{api.Alarm{At: at, Id: id}})
		}
	}
	// They rise as they were made.
	for i, a := range list {
		for j, b := range list {
			if got := a.compare(b); got < 0 != (i < j) || got == 0 != (i == j) || a.before(b) != (i < j) {
				t.Fatalf("%v.compare(%v) = %d", a, b, got)
			}
		}
	}
}
