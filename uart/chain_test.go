package uart

import (
	"testing"

	"drawbridge/api"
)

// drained answers all that is loaded of a line until its state tells that none waits, and the line then.
func drained(t *testing.T, u api.Uart) (string, api.Uart) {
	t.Helper()
	var b []byte
	for range 20 {
		state, left, ok := Load(u, 5, 1)
		if !ok || lineOf(left) != lineOf(u) {
			t.Fatalf("state of %s: %v, %s", lineOf(u), ok, lineOf(left))
		}
		if state%2 == 0 {
			return string(b), u
		}
		x, left, ok := Load(u, 0, 1)
		if !ok || len(left.In) != len(u.In)-1 {
			t.Fatalf("Load of %s: %v, %s", lineOf(u), ok, lineOf(left))
		}
		b, u = append(b, byte(x)), left
	}
	t.Fatalf("%s never ends", lineOf(u))
	return "", u
}

// P11.3: what is typed at once is loaded in order, as much of it as fits.
func TestTypedIsLoaded(t *testing.T) {
	for n := range 40 {
		b := text(n, 3*n)
		got, u := drained(t, Type(api.Uart{}, []byte(b)))
		if fit := min(n, 16); got != b[:fit] || u.Lost != n-fit || len(u.In) != 0 {
			t.Errorf("of %q: %q, and %s is left", b, got, lineOf(u))
		}
	}
}

// P11.3: what is typed in parts is loaded in order, where some is loaded in between, and nothing is lost as long as there is room.
func TestTypedInParts(t *testing.T) {
	for first := range 17 {
		for taken := range first + 1 {
			for second := range 16 - first + taken + 1 {
				b := text(first+second, 50)
				u := Type(api.Uart{}, []byte(b[:first]))
				var got []byte
				for range taken {
					x, left, _ := Load(u, 0, 1)
					got, u = append(got, byte(x)), left
				}
				u = Type(u, []byte(b[first:]))
				rest, left := drained(t, u)
				if string(got)+rest != b || left.Lost != 0 {
					t.Fatalf("%d, %d, %d: %q and %q of %q, and %s", first, taken, second, got, rest, b, lineOf(left))
				}
			}
		}
	}
}

// P11.3: behind bytes that were lost those that fit again come in order.
func TestBehindLost(t *testing.T) {
	u := Type(api.Uart{}, []byte("0123456789abcdefXY"))
	_, u, _ = Load(u, 0, 1)
	_, u, _ = Load(u, 0, 1)
	u = Type(u, []byte("ghZ"))
	got, u := drained(t, u)
	if got != "23456789abcdefgh" || u.Lost != 3 {
		t.Errorf("%q, and %s is left", got, lineOf(u))
	}
}

// P11.3: what is stored goes out in order, the lowest byte of each number, until there are 4096.
func TestStoredGoesOut(t *testing.T) {
	next := chance()
	var u api.Uart
	var want []byte
	for n := range 4200 {
		x := uint64(next())
		left, ok := Store(u, 0, 1, x)
		if !ok {
			t.Fatalf("Store of %#x", x)
		}
		if n < 4096 {
			want = append(want, byte(x))
		}
		if u = left; string(u.Out) != string(want) {
			t.Fatalf("behind %d: %s", n, lineOf(u))
		}
	}
	if len(u.In) != 0 || u.Ie != 0 || u.Lost != 0 {
		t.Errorf("%s is left", lineOf(u))
	}
}

// P11.3: where what went is taken away, more goes out.
func TestRoomAgain(t *testing.T) {
	u := api.Uart{Out: []byte(text(4096, 1))}
	u, _ = Store(u, 0, 1, 'x')
	u.Out = u.Out[4095:]
	u, _ = Store(u, 0, 1, 'y')
	if want := text(4096, 1)[4095:] + "y"; string(u.Out) != want {
		t.Errorf("%q, not %q", u.Out, want)
	}
}

// P11.1, P11.2: what is stored of Ie is loaded again, and whether the line is up goes by it.
func TestStoredIe(t *testing.T) {
	u := Type(api.Uart{}, []byte("a"))
	for _, e := range []struct {
		x, want uint64
		up      bool
	}{{0, 0, false}, {1, 1, true}, {2, 2, false}, {3, 3, true}, {4, 0, false}, {5, 1, true}, {0xfe, 2, false}, {ones, 3, true}, {ones - 1, 2, false}} {
		left, _ := Store(u, 1, 1, e.x)
		if x, _, ok := Load(left, 1, 1); x != e.want || !ok || Line(left) != e.up {
			t.Errorf("Ie of %#x: %d, %v, %v", e.x, x, ok, Line(left))
		}
		_, empty, _ := Load(left, 0, 1)
		if Line(empty) {
			t.Errorf("Ie of %#x: up, where nothing waits", e.x)
		}
		if Line(Type(empty, []byte("b"))) != e.up {
			t.Errorf("Ie of %#x: not as before, where one waits again", e.x)
		}
	}
}

// step is one call, as chance would have it: on what the program and the model have made each.
func step(t *testing.T, next func() int, u api.Uart, model line) (api.Uart, line) {
	t.Helper()
	off, size, x := uint64(next()%8), 1, uint64(next())<<1
	if next()%2 == 0 {
		off = 0
	}
	switch next() % 20 {
	case 0:
		size = sizes[next()%len(sizes)]
	case 1:
		off = uint64(next())
	}
	switch next() % 4 {
	case 0:
		b := text(next()%6, next())
		return Type(u, []byte(b)), typeOf(model, b)
	case 1:
		left, ok := Store(u, off, size, x)
		modelLeft, is := storeOf(model, off, size, x)
		if ok != is {
			t.Fatalf("Store(%s, %#x, %d, %#x) = %v", lineOf(u), off, size, x, ok)
		}
		return left, modelLeft
	}
	got, left, ok := Load(u, off, size)
	want, modelLeft, is := loadOf(model, off, size)
	if got != want || ok != is {
		t.Fatalf("Load(%s, %#x, %d) = %#x, %v, not %#x, %v", lineOf(u), off, size, got, ok, want, is)
	}
	return left, modelLeft
}

// P11.1 to P11.3: many calls, one behind the other: the line is each time what the chapter makes of it, with no more that waits than there may be.
func TestManyCalls(t *testing.T) {
	next := chance()
	var u api.Uart
	var model line
	lost := 0
	for n := range 60000 {
		if n%3000 == 0 {
			model = line{out: text(next()%4097, n), lost: next() % 2 * (1<<31 - 20)}
			u = model.uart()
		}
		before := u.Lost
		u, model = step(t, next, u, model)
		lost += u.Lost - max(before, 0)
		if lineOf(u) != model || Line(u) != upOf(model) {
			t.Fatalf("step %d: %s, %v, not %s", n, lineOf(u), Line(u), model)
		}
		if len(u.In) > 16 || len(u.Out) > 4096 || u.Ie < 0 || u.Ie > 3 || u.Lost < before || u.Lost > 1<<31 {
			t.Fatalf("step %d leads to %s", n, lineOf(u))
		}
	}
	if lost < 1000 {
		t.Errorf("just %d were lost", lost)
	}
}

// P11.3: whatever else is called, what was typed and not lost is what was loaded, and what waits behind it; what was stored is what went.
func TestOrder(t *testing.T) {
	next := chance()
	var u api.Uart
	var typed, loaded, stored []byte
	for n := range 20000 {
		switch next() % 5 {
		case 0, 1:
			b := []byte(text(next()%5, next()))
			fit := min(len(b), 16-len(u.In))
			was := u.Lost
			u = Type(u, b)
			typed = append(typed, b[:fit]...)
			if u.Lost != was+len(b)-fit {
				t.Fatalf("step %d: %d were lost, and %d then", n, was, u.Lost)
			}
		case 2, 3:
			waiting := len(u.In) > 0
			x, left, _ := Load(u, 0, 1)
			if waiting {
				loaded = append(loaded, byte(x))
			}
			u = left
		case 4:
			x, off := uint64(next()), uint64(next()%8)
			left, _ := Store(u, off, 1, x)
			if off == 0 && len(stored) < 4096 {
				stored = append(stored, byte(x))
			}
			u = left
		}
		if string(loaded)+string(u.In) != string(typed) || string(u.Out) != string(stored) {
			t.Fatalf("step %d: %s behind %d that were loaded, of %d", n, lineOf(u), len(loaded), len(typed))
		}
		if len(typed) > 400 {
			typed, loaded = typed[len(loaded):], nil
		}
	}
}
