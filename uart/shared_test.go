package uart

import (
	"slices"
	"testing"

	"drawbridge/api"
)

// marker stands in the room behind the lists' ends.
const marker = 0x77

// wide answers bytes with room behind their end.
func wide(b string, room int) []byte {
	list := append([]byte(b), slices.Repeat([]byte{marker}, room)...)
	return list[: len(b) : len(b)+room]
}

// roomy answers a line like l, with room behind the end of each list.
func roomy(l line) api.Uart {
	u := l.uart()
	u.In, u.Out = wide(l.in, 40), wide(l.out, 40)
	return u
}

// untouched tells whether the room behind the ends of lists is as wide made it.
func untouched(lists ...[]byte) bool {
	for _, b := range lists {
		for _, x := range b[len(b):cap(b)] {
			if x != marker {
				return false
			}
		}
	}
	return true
}

// scribble overwrites lists, and the room behind their ends.
func scribble(lists ...[]byte) {
	for _, b := range lists {
		for i := range b[:cap(b)] {
			b[:cap(b)][i] ^= 0xff
		}
	}
}

// call is one that answers a line.
type call func(u api.Uart) api.Uart

// calls are those that answer a line, done and refused.
func calls() map[string]call {
	list := map[string]call{
		"Type of nothing": func(u api.Uart) api.Uart { return Type(u, nil) },
		"Type of one":     func(u api.Uart) api.Uart { return Type(u, []byte("x")) },
		"Type of some":    func(u api.Uart) api.Uart { return Type(u, []byte("0123456789")) },
		"Type of many":    func(u api.Uart) api.Uart { return Type(u, []byte(text(50, 7))) },
	}
	for _, at := range []struct {
		name string
		off  uint64
		size int
	}{
		{"0", 0, 1}, {"1", 1, 1}, {"2", 2, 1}, {"3", 3, 1}, {"4", 4, 1}, {"5", 5, 1}, {"6", 6, 1}, {"7", 7, 1},
		{"8", 8, 1}, {"the greatest place", ones, 1}, {"0 with size 0", 0, 0}, {"0 with size 4", 0, 4}, {"1 with size -1", 1, -1},
	} {
		list["Load at "+at.name] = func(u api.Uart) api.Uart { _, left, _ := Load(u, at.off, at.size); return left }
		list["Store at "+at.name] = func(u api.Uart) api.Uart { left, _ := Store(u, at.off, at.size, 0x1c1); return left }
	}
	return list
}

// R3, R7: no call changes what is handed in, its bytes, or the room behind their ends.
func TestHandedInStays(t *testing.T) {
	list := calls()
	list["Line"] = func(u api.Uart) api.Uart { Line(u); return api.Uart{} }
	for _, was := range some() {
		for name, f := range list {
			u := roomy(was)
			f(u)
			if lineOf(u) != was {
				t.Fatalf("%s: %s was %s", name, lineOf(u), was)
			}
			if !untouched(u.In, u.Out) {
				t.Fatalf("%s of %s: the room behind an end is another", name, was)
			}
		}
	}
}

// R3: bytes that are typed stay as they were, and the room behind their end; the line shares nothing with them.
func TestTypedStays(t *testing.T) {
	for _, was := range some() {
		for _, n := range []int{0, 1, 5, 15, 16, 17, 60} {
			b := wide(text(n, 8), 40)
			got := Type(roomy(was), b)
			want := lineOf(got)
			if string(b) != text(n, 8) || !untouched(b) {
				t.Fatalf("%d bytes typed into %s: %q", n, was, b)
			}
			scribble(b)
			if lineOf(got) != want {
				t.Fatalf("%d bytes typed into %s: %s was %s", n, was, lineOf(got), want)
			}
			b = wide(text(n, 8), 40)
			got = Type(roomy(was), b)
			scribble(got.In, got.Out)
			if string(b) != text(n, 8) || !untouched(b) {
				t.Fatalf("%d bytes typed into %s: the line reaches them", n, was)
			}
		}
	}
}

// R3: what is answered shares nothing with what was handed in, whether it is done or refused.
func TestAnswersUnshared(t *testing.T) {
	for _, was := range some() {
		for name, f := range calls() {
			u := roomy(was)
			got := f(u)
			want := lineOf(got)
			scribble(got.In, got.Out)
			if lineOf(u) != was || !untouched(u.In, u.Out) {
				t.Fatalf("%s: %s was %s", name, lineOf(u), was)
			}
			got = f(u)
			scribble(u.In, u.Out)
			if lineOf(got) != want {
				t.Fatalf("%s: %s was %s", name, lineOf(got), want)
			}
		}
	}
}

// R3: the two lists of an answer share nothing, nor the room behind their ends, also where those handed in did.
func TestListsUnshared(t *testing.T) {
	one := []byte(text(40, 1))
	alike := func() []api.Uart {
		b := slices.Clone(one)
		return []api.Uart{{In: b[:5], Out: b[5:9], Ie: 1}, {In: b[:9], Out: b[:9]}, {In: b[4:16], Out: b[:16]}, {In: b, Out: b}, {In: b[:16], Out: b[16:]}}
	}
	for i := range alike() {
		for name, f := range calls() {
			u := alike()[i]
			want := lineOf(f(lineOf(u).uart()))
			got := f(u)
			if lineOf(got) != want {
				t.Errorf("%s: %s, not %s", name, lineOf(got), want)
			}
			scribble(got.In)
			if string(got.Out) != want.out {
				t.Errorf("%s: In reaches Out", name)
			}
			got = f(u)
			scribble(got.Out)
			if string(got.In) != want.in {
				t.Errorf("%s: Out reaches In", name)
			}
		}
	}
}

// R3, R4: bytes that are a part of the line itself are typed as they were.
func TestTypeOfItsOwnBytes(t *testing.T) {
	for waits := range 18 {
		for from := range waits + 1 {
			for to := from; to <= waits; to++ {
				l := line{text(waits, 2), text(waits, 90), 1, 0}
				u := roomy(l)
				want := typeOf(l, l.in[from:to])
				if got := lineOf(Type(u, u.In[from:to])); got != want {
					t.Fatalf("In's bytes %d to %d: %s, not %s", from, to, got, want)
				}
				want = typeOf(l, l.out[from:to])
				if got := lineOf(Type(u, u.Out[from:to])); got != want {
					t.Fatalf("Out's bytes %d to %d: %s, not %s", from, to, got, want)
				}
			}
		}
	}
}

// P11.3, R3: two lines that were made of one know nothing of one another, whichever is made first.
func TestTwoOfOne(t *testing.T) {
	for _, was := range some() {
		for name, f := range calls() {
			for other, g := range calls() {
				base := f(roomy(was))
				first := g(base)
				want := lineOf(first)
				Type(base, []byte("other"))
				Store(base, 0, 1, 'o')
				Load(base, 0, 1)
				if lineOf(first) != want {
					t.Fatalf("%s, then %s: %s was %s", name, other, lineOf(first), want)
				}
			}
		}
		if len(was.out) > 0 {
			continue
		}
		base := roomy(was)
		a, b := Type(base, []byte("a")), Type(base, []byte("b"))
		if wantA, wantB := typeOf(was, "a"), typeOf(was, "b"); lineOf(a) != wantA || lineOf(b) != wantB {
			t.Errorf("%s and %s, not %s and %s", lineOf(a), lineOf(b), wantA, wantB)
		}
	}
}

// P11.3, R3: what was answered earlier stays as it was, whatever is typed, loaded and stored later.
func TestEarlierStays(t *testing.T) {
	next := chance()
	u := api.Uart{Ie: 1}
	var answers []api.Uart
	var told []line
	for range 3000 {
		switch next() % 3 {
		case 0:
			u = Type(u, []byte(text(next()%4, next())))
		case 1:
			_, u, _ = Load(u, uint64(next()%9), 1)
		case 2:
			u, _ = Store(u, uint64(next()%9), 1, uint64(next()))
		}
		answers, told = append(answers, u), append(told, lineOf(u))
	}
	for i := range answers {
		if lineOf(answers[i]) != told[i] {
			t.Fatalf("answer %d: %s was %s", i, lineOf(answers[i]), told[i])
		}
	}
}

// R7: of a list its length alone counts: what room it has behind its end is neither loaded nor told, and does not count as full or as room.
func TestRoomBehindTheEnd(t *testing.T) {
	u := api.Uart{In: wide("", 20), Out: wide("", 5000), Ie: 1}
	if x, left, ok := Load(u, 0, 1); x != 0 || len(left.In) != 0 || !ok {
		t.Errorf("Load = %#x, %s", x, lineOf(left))
	}
	if x, _, _ := Load(u, 5, 1); x != 0x60 || Line(u) {
		t.Errorf("the state is %#x", x)
	}
	if got, want := lineOf(Type(u, wide("ab", 20))), (line{"ab", "", 1, 0}); got != want {
		t.Errorf("Type = %s, not %s", got, want)
	}
	if left, _ := Store(u, 0, 1, 'x'); string(left.Out) != "x" {
		t.Errorf("Store = %s", lineOf(left))
	}
	u.In = slices.Clip([]byte(text(15, 1)))
	u.Out = slices.Clip([]byte(text(4095, 1)))
	if got, want := lineOf(Type(u, []byte("ab"))), typeOf(lineOf(u), "ab"); got != want {
		t.Errorf("Type = %s, not %s", got, want)
	}
	if left, _ := Store(u, 0, 1, 'x'); len(left.Out) != 4096 {
		t.Errorf("Store = %s", lineOf(left))
	}
}

// R1, R4: none panics, at whatever it is given, and the same call answers the same.
func TestSameAgain(t *testing.T) {
	next := chance()
	list := some()
	for range 20000 {
		l := list[next()%len(list)]
		u := l.uart()
		off, size, x := uint64(next())<<1, next()-next(), uint64(next())<<1
		if next()%4 != 0 {
			off, size = uint64(next()%10), next()%3
		}
		b := text(next()%30, next())
		for range 2 {
			loads(t, l, off, size)
			stores(t, l, off, size, x)
			if got, want := lineOf(Type(u, []byte(b))), typeOf(l, b); got != want {
				t.Fatalf("Type(%s, %q) = %s, not %s", l, b, got, want)
			}
			if Line(u) != upOf(l) {
				t.Fatalf("Line(%s)", l)
			}
		}
	}
}
