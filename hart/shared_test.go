package hart

import (
	"slices"
	"testing"

	"drawbridge/api"
)

// What stands in the room behind the lists' ends.
const (
	marker  = 0x77
	markers = 7777
)

// roomOf answers a list like the one it is given, with marks in the room behind its end.
func roomOf[T any](list []T, mark T) []T {
	wide := append(slices.Clone(list), slices.Repeat([]T{mark}, 20)...)
	return wide[:len(list)]
}

// roomy answers a scene like s, with room behind the end of each list.
func (s scene) roomy() scene {
	s.h.X = roomOf(s.h.X, markers)
	for _, list := range bytesIn(&s.b) {
		*list = roomOf(*list, marker)
	}
	for _, list := range numbersIn(&s.b) {
		*list = roomOf(*list, markers)
	}
	return s
}

// marked tells whether the room behind a list's end is as roomOf made it.
func marked[T comparable](list []T, mark T) bool {
	return !slices.ContainsFunc(list[len(list):cap(list)][:20], func(x T) bool { return x != mark })
}

// untouched tells whether the room behind the ends of a scene's lists is as roomy made it.
func (s scene) untouched() bool {
	ok := marked(s.h.X, markers)
	for _, list := range bytesIn(&s.b) {
		ok = ok && marked(*list, marker)
	}
	for _, list := range numbersIn(&s.b) {
		ok = ok && marked(*list, markers)
	}
	return ok
}

// scribble overwrites a scene's lists, and the room behind their ends.
func (s scene) scribble() {
	scribbleOver(s.h.X)
	for _, list := range bytesIn(&s.b) {
		scribbleOver(*list)
	}
	for _, list := range numbersIn(&s.b) {
		scribbleOver(*list)
	}
}

// scribbleOver changes each number of a list, and of the room behind its end.
func scribbleOver[T byte | int | uint64](list []T) {
	wide := list[:cap(list)]
	for i := range wide {
		wide[i] ^= 0x5a
	}
}

// calls are those that answer a scene.
func calls() map[string]func(s scene) scene {
	run := func(n int) func(s scene) scene {
		return func(s scene) scene {
			h, b := Run(s.h, s.b, n)
			return scene{h, b}
		}
	}
	return map[string]func(s scene) scene{"Step": scene.step, "Run of 0": run(0), "Run of -1": run(-1), "Run of 1": run(1), "Run of 5": run(5)}
}

// scenes are such as do each kind of thing, and such as do nothing.
func scenes() []scene {
	var list []scene
	for _, ins := range []api.Ins{
		bump(), loadOf(3, 0), storeOf(3, 0), amoOf(0, false), amoOf(lr, false), csrOf(1, 0x340), systemOf(api.Ecall), systemOf(api.Wfi), systemOf(api.Mret),
		{Class: api.Jal, Rd: 1, Imm: 8}, {Class: api.Fence},
	} {
		for _, at := range []uint64{base + 32, 0x10000000, 0xc200004, 0x2004000, 0} {
			s := scened(64, ins, bump(), ins)
			s.h.X[8] = at
			s.b.Uart.In, s.b.Uart.Out, s.b.Uart.Ie = []byte("hi"), []byte("out"), 1
			s.b.Plic.Prio, s.b.Plic.Enable = []int{0, 1, 1}, []int{2, 2}
			list = append(list, s)
		}
	}
	list = append(list, pagedData(api.User, pteR|pteW, loadOf(3, 8), storeOf(3, 8)), interrupted(3, true), lined(1<<7))
	waits := lined(1 << 7)
	waits.h.Wait = true
	list = append(list, waits)
	for _, h := range wrongOnes() {
		s := loud()
		s.h = h
		list = append(list, s)
	}
	return list
}

// R3, R7: no call changes what is handed in, its lists, or the room behind their ends.
func TestHandedInStays(t *testing.T) {
	for i, was := range scenes() {
		for name, call := range calls() {
			s := was.roomy()
			call(s)
			if text := differ(s, was); text != "" || !s.untouched() {
				t.Fatalf("%s of scene %d: %s", name, i, text)
			}
		}
	}
}

// R3: what is answered shares nothing with what was handed in, whatever was done.
func TestAnswersUnshared(t *testing.T) {
	for i, was := range scenes() {
		for name, call := range calls() {
			s := was.roomy()
			got := call(s)
			want := got.clone()
			got.scribble()
			if text := differ(s, was); text != "" || !s.untouched() {
				t.Fatalf("%s of scene %d: a change of the answer is seen in what was handed in: %s", name, i, text)
			}
			got = call(s)
			s.scribble()
			if text := differ(got, want); text != "" {
				t.Fatalf("%s of scene %d: a change of what was handed in is seen in the answer: %s", name, i, text)
			}
		}
	}
}

// R3: two answers to the same call share nothing.
func TestTwiceUnshared(t *testing.T) {
	for i, s := range scenes() {
		for name, call := range calls() {
			one, other := call(s), call(s)
			want := other.clone()
			one.scribble()
			if text := differ(other, want); text != "" {
				t.Fatalf("%s of scene %d: %s", name, i, text)
			}
		}
	}
}

// R3: the lists of an answer share nothing with one another, also where those handed in did.
func TestListsUnshared(t *testing.T) {
	for name, call := range calls() {
		for _, ins := range []api.Ins{bump(), loadOf(4, 0), storeOf(0, 0)} {
			for _, at := range []uint64{base + 32, 0x10000000, 0x10001000} {
				s := scened(64, ins)
				s.h.X[8] = at
				bytes := s.b.Ram.Data
				s.b.Uart.In, s.b.Uart.Out, s.b.Nic.Mac = bytes[40:44], bytes[36:48], bytes[40:46]
				row := []int{0, 1, 2, 0}
				s.b.Plic.Prio, s.b.Plic.Enable, s.b.Plic.Threshold = row[:3], row[2:], row[:2]
				want := call(s.clone())
				got := call(s)
				if text := differ(got, want); text != "" {
					t.Fatalf("%s: %s", name, text)
				}
				for i, list := range bytesIn(&got.b) {
					scribbleOver(*list)
					*list, *bytesIn(&want.b)[i] = nil, nil
					if !same(got, want) {
						t.Fatalf("%s: list %d reaches another one", name, i)
					}
				}
				for i, list := range numbersIn(&got.b) {
					scribbleOver(*list)
					*list, *numbersIn(&want.b)[i] = nil, nil
					if !same(got, want) {
						t.Fatalf("%s: row %d reaches another one", name, i)
					}
				}
			}
		}
	}
}

// R3, R4: two processors that were made alike know nothing of one another.
func TestNewUnshared(t *testing.T) {
	one, other := New(base), New(base)
	scribbleOver(one.X)
	if !Check(other) || !slices.Equal(other.X, make([]uint64, 32)) {
		t.Errorf("%v", other.X)
	}
}

// R7: of a list its length alone counts: 31 registers are not 32, whatever room there is, and memory ends where its list does.
func TestRoomBehindTheEnd(t *testing.T) {
	s := scened(64, loadOf(3, 0), storeOf(3, 0)).roomy()
	s.h.X[8] = base + 64
	s.traps(t, "a load", 5, base+64)
	s.h.Pc += 4
	s.traps(t, "a store", 7, base+64)
	s.h.X = s.h.X[:31]
	if Check(s.h) {
		t.Error("31 registers may be")
	}
}
