package nic

import (
	"bytes"
	"fmt"
	"slices"
	"testing"

	"drawbridge/api"
)

// marker stands in the room behind the lists' ends.
const marker = 0x77

// wide answers bytes with room behind their end.
func wide(b []byte) []byte {
	list := append(slices.Clone(b), bytes.Repeat([]byte{marker}, 40)...)
	return list[: len(b) : len(b)+40]
}

// untouched tells whether the room behind the ends of lists is as wide made it.
func untouched(lists ...[]byte) bool {
	for _, b := range lists {
		for _, x := range b[len(b):cap(b)] {
			if x != marker {
				return false
			}
		}
	}
	return true
}

// scribble overwrites lists, and the room behind their ends.
func scribble(lists ...[]byte) {
	for _, b := range lists {
		for i := range b[:cap(b)] {
			b[:cap(b)][i] ^= 0xff
		}
	}
}

// scene is what a call is given: a controller, memory, and a frame.
type scene struct {
	n     api.Nic
	r     api.Ram
	frame []byte
}

// roomy answers a scene like s that shares nothing with it, with room behind the end of each list.
func (s scene) roomy() scene {
	s.n.Mac, s.r.Data, s.frame = wide(s.n.Mac), wide(s.r.Data), wide(s.frame)
	return s
}

// is tells whether two scenes are the same.
func (s scene) is(other scene) bool {
	return same(s.n, other.n) && sameRam(s.r, other.r) && bytes.Equal(s.frame, other.frame)
}

// answer is what a call answers: a controller, memory (none of Store), a frame (none but of Send), and whether it was done.
type answer struct {
	n     api.Nic
	r     api.Ram
	frame []byte
	ok    bool
}

// lists answers the lists of an answer.
func (a answer) lists() [][]byte { return [][]byte{a.n.Mac, a.r.Data, a.frame} }

// String answers an answer as a text.
func (a answer) String() string {
	return fmt.Sprintf("%s, memory %x, %x, %v", tell(a.n), a.r.Data, a.frame, a.ok)
}

// scenes are such in which each of the calls does each of the things that it can do.
func scenes() map[string]scene {
	list := map[string]scene{}
	put := func(name string, f func(s *scene)) {
		n, _ := stand()
		n.TxBase, n.TxLen, n.TxHead, n.TxTail = base+16, 2, 1, 0
		n.RxBase, n.RxLen, n.RxHead, n.RxTail = base+32, 2, 1, 0
		s := scene{n, memory(160), frameOf(20, hand())}
		putDesc(s.r, base+32, desc{base + 64, 30, 3, 7})
		putDesc(s.r, base+48, desc{base + 100, 30, 3, 7})
		f(&s)
		list[name] = s
	}
	put("all is well", func(*scene) {})
	put("no bit of Ctrl", func(s *scene) { s.n.Ctrl = 0 })
	put("empty rings", func(s *scene) { s.n.TxTail, s.n.RxTail = 1, 1 })
	put("broken rings", func(s *scene) { s.n.TxBase, s.n.RxBase = 0, 0 })
	put("descriptors of another", func(s *scene) { put0(s.r, base+32+10, base+48+10) })
	put("no memory behind descriptors", func(s *scene) { put0(s.r, base+32+4, base+48+4) })
	put("lengths that are too short", func(s *scene) { put0(s.r, base+32+8, base+48+8) })
	put("a frame that is too short", func(s *scene) { s.frame = s.frame[:13] })
	put("no frame", func(s *scene) { s.frame = nil })
	put("no memory", func(s *scene) { s.r = api.Ram{} })
	put("no address", func(s *scene) { s.n.Mac = nil })
	put("an address that is too long", func(s *scene) { s.n.Mac = append(hand(), 9) })
	put("a length that may not be", func(s *scene) { s.n.TxLen = 65 })
	put("all zero", func(s *scene) { s.n = api.Nic{} })
	put("over itself", func(s *scene) {
		putDesc(s.r, base+32, desc{base + 30, 30, 3, 7})
		putDesc(s.r, base+48, desc{base + 44, 30, 3, 7})
	})
	return list
}

// put0 writes noughts.
func put0(r api.Ram, ats ...uint64) {
	for _, at := range ats {
		put(r, at, 0)
	}
}

// calls are those that answer something, done and refused.
func calls() map[string]func(s scene) answer {
	list := map[string]func(s scene) answer{
		"Send": func(s scene) answer {
			n, r, frame, ok := Send(s.n, s.r)
			return answer{n, r, frame, ok}
		},
		"Receive": func(s scene) answer {
			n, r, ok := Receive(s.n, s.r, s.frame)
			return answer{n, r, nil, ok}
		},
		"Store of no size": func(s scene) answer {
			n, ok := Store(s.n, 0, 8, 1)
			return answer{n: n, ok: ok}
		},
		"Store at no place": func(s scene) answer {
			n, ok := Store(s.n, 60, 4, 1)
			return answer{n: n, ok: ok}
		},
		"New": func(s scene) answer {
			n, e := New(s.n.Mac)
			return answer{n: n, ok: e == api.OK}
		},
	}
	for i, p := range places {
		list["Store of "+p.name] = func(s scene) answer {
			n, ok := Store(s.n, uint64(4*i), 4, 1)
			return answer{n: n, ok: ok}
		}
	}
	return list
}

// R3, R7: no call changes what is handed in, nor the room behind the end of the memory, the frame and the address.
func TestHandedInStays(t *testing.T) {
	list := calls()
	list["Check, Load, Line"] = func(s scene) answer {
		Check(s.n)
		Line(s.n)
		for i := range uint64(16) {
			Load(s.n, 4*i, 4)
		}
		return answer{}
	}
	for kind, was := range scenes() {
		for name, call := range list {
			s := was.roomy()
			call(s)
			if !s.is(was) || !untouched(s.n.Mac, s.r.Data, s.frame) {
				t.Errorf("%s, %s: what is handed in is another", name, kind)
			}
		}
	}
}

// R3: what is answered shares nothing with what was handed in, whether it is done or refused.
func TestAnswersUnshared(t *testing.T) {
	for kind, was := range scenes() {
		for name, call := range calls() {
			s := was.roomy()
			got := call(s)
			want := got.String()
			scribble(got.lists()...)
			if !s.is(was) || !untouched(s.n.Mac, s.r.Data, s.frame) {
				t.Errorf("%s, %s: what is answered reaches what was handed in", name, kind)
			}
			got = call(s)
			scribble(s.n.Mac, s.r.Data, s.frame)
			if got.String() != want {
				t.Errorf("%s, %s: %s was %s", name, kind, got, want)
			}
		}
	}
}

// R3: no two lists of an answer share anything, nor the room behind their ends.
func TestListsUnshared(t *testing.T) {
	for kind, was := range scenes() {
		for name, call := range calls() {
			for i := range 3 {
				got := call(was.roomy())
				want := got
				want.n, want.r, want.frame = copyOf(got.n), ramOf(got.r), slices.Clone(got.frame)
				scribble(got.lists()[i])
				for j := range 3 {
					if j != i && !bytes.Equal(got.lists()[j], want.lists()[j]) {
						t.Errorf("%s, %s: list %d reaches list %d", name, kind, i, j)
					}
				}
			}
		}
	}
}

// R3: an address, a frame and memory that are handed in as parts of one list are read each by itself, and stay.
func TestOneListForAll(t *testing.T) {
	for from := range 130 {
		for size := 14; size < 31; size += 4 {
			s := scenes()["all is well"].roomy()
			s.n.Ctrl = 7
			s.n.Mac = s.r.Data[from : from+6]
			s.frame = s.r.Data[from : from+size]
			was := scene{copyOf(s.n), ramOf(s.r), slices.Clone(s.frame)}
			left, r, ok := receives(t, s.n, s.r, s.frame)
			scribble(left.Mac)
			if want := written(r, base+100, was.frame...); !sameRam(r, want) || !ok || !s.is(was) {
				t.Fatalf("%d bytes from %d on: %v, memory%s", size, from, ok, diff(r, want))
			}
			left, r, frame, ok := sends(t, s.n, s.r)
			if !bytes.Equal(left.Mac, was.n.Mac) || !bytes.Equal(frame, was.r.Data[64:94]) || !ok || len(r.Data) != 160 {
				t.Fatalf("%d bytes from %d on: %s, %x, %v", size, from, tell(left), frame, ok)
			}
		}
	}
}

// R4: two controllers made of one address know nothing of one another.
func TestNewApart(t *testing.T) {
	mac := hand()
	a, _ := New(mac)
	b, _ := New(mac)
	scribble(a.Mac)
	if !bytes.Equal(b.Mac, hand()) || !bytes.Equal(mac, hand()) {
		t.Errorf("%x, %x", b.Mac, mac)
	}
	scribble(mac)
	if !bytes.Equal(b.Mac, hand()) {
		t.Errorf("%x", b.Mac)
	}
}

// R7: of memory its length alone counts: descriptors and buffers in the room behind its end are not memory; nor are bytes of a frame behind its end a part of it.
func TestRoomBehindTheEnd(t *testing.T) {
	s := scenes()["all is well"]
	for size := range 160 {
		r := api.Ram{Data: s.r.Data[:size]}
		sends(t, s.n, r)
		receives(t, s.n, r, s.frame)
	}
	isDropped(t, "13 bytes, and room", s.n, s.r, frameOf(60, hand())[:13])
	_, r, _ := receives(t, s.n, s.r, frameOf(60, hand())[:14])
	if !bytes.Equal(r.Data[114:], s.r.Data[114:]) {
		t.Error("bytes behind a frame's end are written")
	}
}

// R1, R4: none panics, at whatever it is given, and the same call answers the same.
func TestSameAgain(t *testing.T) {
	next := chance()
	all := some()
	for _, n := range wrongOnes() {
		all = append(all, n)
	}
	slices.SortFunc(all, func(a, b api.Nic) int { return bytes.Compare([]byte(tell(a)), []byte(tell(b))) })
	for range 20000 {
		n, r := all[next()%len(all)], memory(next()%200)
		frame := frameOf(next()%100, n.Mac)
		off, size, x := uint64(next())<<1, next()-next(), uint64(next())<<1
		if next()%4 != 0 {
			off, size = uint64(next()%17*4), 4
		}
		for range 2 {
			sends(t, n, r)
			receives(t, n, r, frame)
			got, ok := Load(n, off, size)
			if want, is := loadOf(n, off, size); got != want || ok != is {
				t.Fatalf("Load(%s, %#x, %d) = %#x, %v", tell(n), off, size, got, ok)
			}
			left, ok := Store(n, off, size, x)
			if want, is := storeOf(n, off, size, x); !same(left, want) || ok != is {
				t.Fatalf("Store(%s, %#x, %d, %#x) = %s, %v", tell(n), off, size, x, tell(left), ok)
			}
			if Line(n) != upOf(n) || Check(n) != checkOf(n) {
				t.Fatalf("Line or Check of %s", tell(n))
			}
		}
	}
}
