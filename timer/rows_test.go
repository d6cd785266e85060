package timer

import (
	"math"
	"slices"
	"testing"

	"drawbridge/api"
)

// kind is what a row of calls is made of: how many ids and times there are, and of how many calls Set, Del and Due are each.
type kind struct {
	ids   int
	times int
	sets  int
	dels  int
	dues  int
}

// kinds are such with few and many ids and times, in which alarms become more, stay as many, and become fewer.
func kinds() []kind {
	var list []kind
	for _, ids := range []int{1, 2, 3, 8, 40, 1000} {
		for _, times := range []int{1, 3, 20, 500} {
			list = append(list, kind{ids, times, 8, 1, 0}, kind{ids, times, 8, 4, 1}, kind{ids, times, 5, 4, 3})
		}
	}
	return list
}

// P22.2: rows of calls by chance, some hundreds long, each call held against the chapter.
func TestRows(t *testing.T) {
	for seed, k := range kinds() {
		for more := range uint64(6) {
			next := chance(uint64(seed)*6 + more)
			h := hold(t, nil)
			for range 600 {
				id, at := next(k.ids)-k.ids/2, next(k.times)-k.times/2
				switch which := next(k.sets + k.dels + k.dues); {
				case which < k.sets:
					h.set(at, id)
					h.look("Set")
				case which < k.sets+k.dels:
					h.del(id)
					h.look("Del")
				default:
					h.due(at)
					h.look("Due")
				}
			}
			h.due(math.MaxInt)
			h.look("Due of all")
		}
	}
}

// P22.1, P22.2, R1: rows with times and ids of all sizes.
func TestRowsEdges(t *testing.T) {
	list := edges()
	next := chance(81)
	for range 100 {
		h := hold(t, nil)
		for range 300 {
			at, id := list[next(len(list))], list[next(len(list))]
			switch next(8) {
			case 0:
				h.due(at)
			case 1:
				h.del(id)
			default:
				h.set(at, id)
			}
			h.look("a call")
		}
	}
}

// P22.2: rows about the most alarms that may be: of as many, of one more and of fewer.
func TestRowsFull(t *testing.T) {
	next := chance(91)
	h := hold(t, full())
	for i := range 6000 {
		id, at := next(4300), next(1500)
		switch next(6) {
		case 0:
			h.del(id)
		case 1:
			h.due(next(30))
		default:
			h.set(at, id)
		}
		h.first("a call")
		if i%200 == 0 {
			h.look("a call")
		}
	}
	h.due(math.MaxInt)
}

// P22.2: each alarm comes once, in order, at the last time that was set; what was deleted never comes. Told by what was set last of each id.
func TestComesOnce(t *testing.T) {
	for seed := range uint64(300) {
		next := chance(1000 + seed)
		w := New()
		last := map[int]int{}
		for range 400 {
			id, at := next(60), next(100)
			if next(3) == 0 {
				w.Del(id)
				delete(last, id)
			} else {
				w.Set(at, id)
				last[id] = at
			}
		}
		var came []api.Alarm
		for now := -1; now <= 100; now += 1 + next(5) {
			for _, a := range w.Due(now) {
				if a.At > now {
					t.Fatalf("%v came at %d", a, now)
				}
				came = append(came, a)
			}
		}
		came = append(came, w.Due(100)...)
		if !slices.IsSortedFunc(came, inOrder) || len(came) != len(last) || w.Len() != 0 {
			t.Fatalf("%v came of %v", came, last)
		}
		for _, a := range came {
			if at, ok := last[a.Id]; !ok || at != a.At {
				t.Fatalf("%v came of %v", a, last)
			}
			delete(last, a.Id)
		}
	}
}

// inOrder is below 0 if a comes ahead of b.
func inOrder(a api.Alarm, b api.Alarm) int {
	if ahead(a, b) {
		return -1
	}
	return 1
}
