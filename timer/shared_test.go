package timer

import (
	"math"
	"slices"
	"testing"

	"drawbridge/api"
)

// scribble overwrites a list, and the room behind its end.
func scribble(list []api.Alarm) {
	all := list[:cap(list)]
	for i := range all {
		all[i] = api.Alarm{At: -77, Id: -78}
	}
}

// R3: what is answered is new memory: what is written over it, or appended to it, reaches neither the wheel nor another answer.
func TestAnswersUnshared(t *testing.T) {
	for _, n := range []int{0, 1, 2, 3, 5, 8, 9, 100, 4096} {
		h := hold(t, alarms(mixed(n, 12), paired))
		first, second := h.w.All(), h.w.All()
		want := slices.Clone(second)
		scribble(append(first, api.Alarm{}))
		scribble(first)
		h.look("an answer of All that was overwritten")
		if !slices.Equal(second, want) {
			t.Fatalf("%d alarms: two answers of All share memory", n)
		}
		for _, now := range []int{-1, 0, 10, 10*n/4 + 1, math.MaxInt} {
			got := h.w.Due(now)
			_, h.told = h.told.parted(now)
			scribble(append(got, api.Alarm{}))
			scribble(got)
			h.look("an answer of Due that was overwritten")
			if !slices.Equal(second, want) {
				t.Fatalf("%d alarms: answers of All and Due share memory", n)
			}
		}
	}
}

// R3: what was answered stays when later calls are made.
func TestAnswersStay(t *testing.T) {
	next := chance(13)
	for range 200 {
		w := New()
		var got, want [][]api.Alarm
		for range 200 {
			switch next(8) {
			case 0:
				got = append(got, w.Due(next(100)))
			case 1:
				got = append(got, w.All())
			case 2:
				w.Del(next(60))
			default:
				w.Set(next(200), next(60))
			}
			if len(got) > len(want) {
				want = append(want, slices.Clone(got[len(got)-1]))
			}
		}
		for i := range got {
			if !slices.Equal(got[i], want[i]) {
				t.Fatalf("answer %d: %v was %v", i, got[i], want[i])
			}
		}
	}
}

// R3: the alarm that Next answers stays when it is set to another time, and when it goes.
func TestNextStays(t *testing.T) {
	w := New()
	w.Set(5, 1)
	got, ok := w.Next()
	w.Set(9, 1)
	w.Set(2, 2)
	w.Due(math.MaxInt)
	if got != (api.Alarm{At: 5, Id: 1}) || !ok {
		t.Errorf("Next() = %v, %v", got, ok)
	}
}

// R4, R8: wheels to which the same is done answer the same.
func TestSameAgain(t *testing.T) {
	row := func() [][]api.Alarm {
		next := chance(14)
		w := New()
		var answers [][]api.Alarm
		for range 3000 {
			w.Set(next(30), next(50))
			w.Del(next(50))
			answers = append(answers, w.All(), w.Due(next(10)))
		}
		return answers
	}
	want := row()
	for range 3 {
		if got := row(); !slices.EqualFunc(got, want, slices.Equal[[]api.Alarm]) {
			t.Fatal("the same row answers something else")
		}
	}
}
