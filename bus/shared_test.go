package bus

import (
	"fmt"
	"slices"
	"testing"

	"drawbridge/api"
)

// What stands in the room behind the lists' ends.
const (
	marker  = 0x77
	markers = -77
)

// roomy answers a board like b, with room behind the end of each list.
func roomy(b api.Board) api.Board {
	for _, list := range bytesIn(&b) {
		wide := append(slices.Clone(*list), slices.Repeat([]byte{marker}, 20)...)
		*list = wide[:len(*list)]
	}
	for _, list := range numbersIn(&b) {
		wide := append(slices.Clone(*list), slices.Repeat([]int{markers}, 5)...)
		*list = wide[:len(*list)]
	}
	return b
}

// untouched tells whether the room behind the ends of a board's lists is as roomy made it.
func untouched(b api.Board) bool {
	for _, list := range bytesIn(&b) {
		if slices.ContainsFunc((*list)[len(*list):cap(*list)][:20], func(x byte) bool { return x != marker }) {
			return false
		}
	}
	for _, list := range numbersIn(&b) {
		if slices.ContainsFunc((*list)[len(*list):cap(*list)][:5], func(x int) bool { return x != markers }) {
			return false
		}
	}
	return true
}

// scribble overwrites a board's lists, and the room behind their ends.
func scribble(b api.Board) {
	for _, list := range bytesIn(&b) {
		wide := (*list)[:cap(*list)]
		for i := range wide {
			wide[i] ^= 0xff
		}
	}
	for _, list := range numbersIn(&b) {
		wide := (*list)[:cap(*list)]
		for i := range wide {
			wide[i] = 1000 + i
		}
	}
}

// calls are those that answer a board, done and refused, of each device.
func calls() map[string]func(b api.Board) api.Board {
	list := map[string]func(b api.Board) api.Board{
		"Lines": func(b api.Board) api.Board { left, _ := Lines(b); return left },
	}
	for _, at := range []uint64{
		0x2000000, 0x2004000, 0x200bff8, 0xc000004, 0xc002000, 0xc200000, 0xc200004, 0xc201004,
		0x10000000, 0x10000001, 0x10000005, 0x10001000, 0x10001004, 0x10001034, base, base + 60, base + 62, 0, ones,
	} {
		for _, size := range []int{1, 4, 8, 0} {
			name := fmt.Sprintf(" at %#x of %d", at, size)
			list["Load"+name] = func(b api.Board) api.Board { _, left, _ := Load(b, at, size); return left }
			list["Store"+name] = func(b api.Board) api.Board { left, _ := Store(b, at, size, 0x0203); return left }
		}
	}
	return list
}

// R3, R7: no call changes what is handed in, its lists, or the room behind their ends.
func TestHandedInStays(t *testing.T) {
	for _, was := range all() {
		for name, call := range calls() {
			b := roomy(was)
			call(b)
			if !same(b, was) || !untouched(b) {
				t.Fatalf("%s: %s was %s", name, tell(b), tell(was))
			}
		}
	}
}

// R3: what is answered shares nothing with what was handed in, whether it is done or refused.
func TestAnswersUnshared(t *testing.T) {
	for _, was := range all() {
		for name, call := range calls() {
			b := roomy(was)
			got := call(b)
			want := clone(got)
			scribble(got)
			if !same(b, was) || !untouched(b) {
				t.Fatalf("%s: %s was %s", name, tell(b), tell(was))
			}
			got = call(b)
			scribble(b)
			if !same(got, want) {
				t.Fatalf("%s: %s was %s", name, tell(got), tell(want))
			}
		}
	}
}

// R3: the lists of an answer share nothing with one another, also where those handed in did.
func TestListsUnshared(t *testing.T) {
	for name, call := range calls() {
		b := full()
		one := bytesOf(40, 1)
		b.Ram.Data, b.Uart.In, b.Uart.Out, b.Nic.Mac = one[:32], one[:5], one[5:16], one[:6]
		row := []int{0, 1, 2, 0}
		b.Plic.Prio, b.Plic.Enable, b.Plic.Threshold = row[:3], row[2:], row[:2]
		want := call(clone(b))
		got := call(b)
		for i, list := range bytesIn(&got) {
			for j := range (*list)[:cap(*list)] {
				(*list)[:cap(*list)][j] ^= 0xff
			}
			*list, *bytesIn(&want)[i] = nil, nil
			if !same(got, want) {
				t.Fatalf("%s: list %d reaches another one", name, i)
			}
		}
		for i, list := range numbersIn(&got) {
			for j := range (*list)[:cap(*list)] {
				(*list)[:cap(*list)][j] += 100
			}
			*list, *numbersIn(&want)[i] = nil, nil
			if !same(got, want) {
				t.Fatalf("%s: row %d reaches another one", name, i)
			}
		}
	}
}

// R3, R4: two boards that were made of one address know nothing of one another, nor of the address.
func TestNewUnshared(t *testing.T) {
	mac := append(hand(), marker)[:6]
	a, _ := New(8, mac)
	b, _ := New(8, mac)
	want := clone(b)
	scribble(a)
	if !same(b, want) || string(mac) != string(hand()) || mac[:7][6] != marker {
		t.Errorf("%s, % x", tell(b), mac[:7])
	}
	mac[0] = 1
	if !same(b, want) {
		t.Errorf("%s was %s", tell(b), tell(want))
	}
}

// R7: of a list its length alone counts: memory ends where its list does, whatever room there is behind.
func TestRoomBehindTheEnd(t *testing.T) {
	b := roomy(full())
	if x, _, ok := Load(b, base+64, 1); x != 0 || ok {
		t.Errorf("Load = %#x, %v", x, ok)
	}
	if left, ok := Store(b, base+61, 4, 1); ok || !same(left, full()) {
		t.Errorf("Store = %s, %v", tell(left), ok)
	}
	b.Nic.Mac = append(hand(), 1)[:5]
	if _, _, ok := Load(b, 0x10001000, 4); ok {
		t.Error("an address of five bytes is taken")
	}
}
