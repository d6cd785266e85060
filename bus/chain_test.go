package bus

import (
	"testing"

	"drawbridge/api"
	"drawbridge/clint"
	"drawbridge/nic"
	"drawbridge/uart"
)

// step makes one call, as chance would have it, and holds it against the chapter.
func step(t *testing.T, next func() int, b api.Board) api.Board {
	t.Helper()
	list := edges()
	at, size, x := list[next()%len(list)], []int{1, 4, 4, 4, 8}[next()%5], uint64(next())<<1
	if next()%2 == 0 {
		x = uint64(next() % 9)
	}
	if next()%20 == 0 {
		size = sizes[next()%len(sizes)]
	}
	switch next() % 8 {
	case 0:
		return device(next, b)
	case 1, 2:
		left, up := Lines(b)
		if want, is := linesOf(b); up != is || !same(left, want) {
			t.Fatalf("Lines of %s = %#x, %s", tell(b), up, tell(left))
		}
		return left
	case 3, 4:
		loads(t, b, at, size)
		_, left, _ := Load(b, at, size)
		return left
	}
	stores(t, b, at, size, x)
	left, _ := Store(b, at, size, x)
	return left
}

// device has a device do something of its own.
func device(next func() int, b api.Board) api.Board {
	switch next() % 3 {
	case 0:
		b.Clint = clint.Tick(b.Clint)
	case 1:
		b.Uart = uart.Type(b.Uart, bytesOf(next()%4, next()%200))
	case 2:
		b.Nic, b.Ram, _ = nic.Receive(b.Nic, b.Ram, bytesOf(20, next()%200))
	}
	return b
}

// P13.2, P13.3, R3: many calls, one behind the other: the board is each time what the chapter makes of it, and what was answered earlier stays.
func TestManyCalls(t *testing.T) {
	next := chance()
	var answers, told []api.Board
	seen := uint64(0)
	for n := range 30000 {
		if n%3000 == 0 {
			b, _ := New(64, hand())
			answers, told = []api.Board{b}, []api.Board{clone(b)}
		}
		b := step(t, next, answers[len(answers)-1])
		_, up := Lines(b)
		seen |= up
		answers, told = append(answers, b), append(told, clone(b))
		if n%3000 == 2999 {
			earlierStays(t, answers, told)
		}
	}
	if seen != 1<<3|1<<7|1<<9|1<<11 {
		t.Errorf("just %#x were up", seen)
	}
}

// earlierStays holds what was answered against what it was then.
func earlierStays(t *testing.T, answers []api.Board, told []api.Board) {
	t.Helper()
	for i := range answers {
		if !same(answers[i], told[i]) {
			t.Fatalf("answer %d: %s was %s", i, tell(answers[i]), tell(told[i]))
		}
	}
}

// R1, R4: none panics, at whatever it is given, and the same call answers the same.
func TestSameAgain(t *testing.T) {
	next := chance()
	list := all()
	for range 20000 {
		b := list[next()%len(list)]
		at, size, x := uint64(next())<<1, next()-next(), uint64(next())<<1
		if next()%4 != 0 {
			at, size = uint64(next())>>(next()%63), sizes[next()%len(sizes)]
		}
		for range 2 {
			loads(t, b, at, size)
			stores(t, b, at, size, x)
		}
	}
}
