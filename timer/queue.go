package timer

import (
	"container/heap"
	"slices"
)

// queue is the alarms that wait, as package heap keeps them: none stands ahead of the first one. An alarm is found by its id's place in the list.
type queue struct {
	list   []alarm
	places map[int]int
}

// newQueue answers one without alarms.
func newQueue() *queue {
	return &queue{places: map[int]int{}}
}

// set puts a in the place of the alarm of its id, or besides, if there is none and room is left.
func (q *queue) set(a alarm) {
	place, ok := q.places[a.Id]
	switch {
	case ok:
		q.list[place] = a
		heap.Fix(q, place)
	case q.Len() < most:
		heap.Push(q, a)
	}
}

// del takes the alarm of id away, and tells whether there was one.
func (q *queue) del(id int) bool {
	place, ok := q.places[id]
	if ok {
		heap.Remove(q, place)
	}
	return ok
}

// first answers the alarm that is due first, and whether there is one.
func (q *queue) first() (alarm, bool) {
	if q.Len() == 0 {
		return alarm{}, false
	}
	return q.list[0], true
}

// takeUntil takes one alarm after another away, in their order, until one is late, and answers them.
func (q *queue) takeUntil(isLate func(alarm) bool) []alarm {
	var list []alarm
	for {
		first, ok := q.first()
		if !ok || isLate(first) {
			return list
		}
		heap.Pop(q)
		list = append(list, first)
	}
}

// sorted answers all alarms in their order.
func (q *queue) sorted() []alarm {
	list := slices.Clone(q.list)
	slices.SortFunc(list, alarm.compare)
	return list
}

// Len answers how many alarms wait.
func (q *queue) Len() int { return len(q.list) }

// Less tells whether the alarm at place i is due ahead of the one at place j.
func (q *queue) Less(i, j int) bool { return q.list[i].before(q.list[j]) }

// Swap turns the alarms at two places round.
func (q *queue) Swap(i, j int) {
	q.list[i], q.list[j] = q.list[j], q.list[i]
	q.places[q.list[i].Id] = i
	q.places[q.list[j].Id] = j
}

// Push puts an alarm at the end of the list. It panics if x is no alarm, and changes nothing then.
func (q *queue) Push(x any) {
	a := x.(alarm)
	q.places[a.Id] = q.Len()
	q.list = append(q.list, a)
}

// Pop takes the alarm at the end of the list away, and answers it. It panics if there is none.
func (q *queue) Pop() any {
	end := q.Len() - 1
	a := q.list[end]
	delete(q.places, a.Id)
	q.list = q.list[:end]
	return a
}
