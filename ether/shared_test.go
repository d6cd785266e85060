package ether

import (
	"bytes"
	"slices"
	"testing"

	"drawbridge/api"
)

// marker stands in the room before lists and behind their ends.
const (
	marker = 0x77
	room   = 40
)

// roomy answers a list like b, with room before it and behind its end, and all that it lies in.
func roomy(b []byte) ([]byte, []byte) {
	edge := bytes.Repeat([]byte{marker}, room)
	all := slices.Concat(edge, b, edge)
	return all[room : room+len(b)], all
}

// scribble overwrites lists, and the room behind their ends.
func scribble(lists ...[]byte) {
	for _, b := range lists {
		all := b[:cap(b)]
		for i := range all {
			all[i] ^= 0xff
		}
	}
}

// result is what a call answers: the lists, and all besides.
type result struct {
	lists   [][]byte
	numbers [5]int
}

// clone answers a result like r, which shares nothing with it.
func (r result) clone() result {
	lists := make([][]byte, len(r.lists))
	for i, b := range r.lists {
		lists[i] = bytes.Clone(b)
	}
	return result{lists, r.numbers}
}

// is tells whether two results are the same.
func (r result) is(other result) bool {
	return r.numbers == other.numbers && slices.EqualFunc(r.lists, other.lists, bytes.Equal)
}

// one answers 1 of true.
func one(x bool) int {
	if x {
		return 1
	}
	return 0
}

func ofBytes(b []byte, e api.Errno) result { return result{[][]byte{b}, [5]int{int(e)}} }
func ofFrame(f api.Frame, e api.Errno) result {
	return result{[][]byte{f.Dst, f.Src, f.Data}, [5]int{int(e), f.Type}}
}
func ofArp(a api.Arp, e int) result {
	return result{[][]byte{a.Smac, a.Tmac}, [5]int{e, a.Op, int(a.Sip), int(a.Tip)}}
}

// call is one with the lists that it is handed in.
type call struct {
	name string
	in   [][]byte
	do   func(in [][]byte) result
}

// calls are all five, done and refused.
func calls() []call {
	var list []call
	for _, f := range frames()[:60] {
		list = append(list, putCall("Put", f))
		b, _ := Put(f)
		list = append(list, getCall("Get", b))
	}
	for _, f := range []api.Frame{
		{Dst: run(1, 6), Src: run(7, 6), Type: -1, Data: run(3, 20)},
		{Dst: run(1, 5), Src: run(7, 6), Data: run(3, 20)},
		{Dst: run(1, 6), Src: run(7, 7), Data: run(3, 20)},
		{Dst: run(1, 6), Src: run(7, 6), Data: run(3, 1500)},
		{Dst: run(1, 6), Src: run(7, 6), Data: run(3, 1501)},
		{},
	} {
		list = append(list, putCall("Put of another", f))
	}
	for _, n := range []int{0, 5, 13, 14, 15, 1514, 1515, 3000} {
		list = append(list, getCall("Get of others", run(2, n)), getArpCall("GetArp of others", run(2, n)))
	}
	for _, a := range messages() {
		b, _ := PutArp(a)
		list = append(list, putArpCall("PutArp", a), getArpCall("GetArp", b), getArpCall("GetArp of more", slices.Concat(b, run(5, 30))))
		list = append(list, answerCall("Answer", a, run(1, 6), a.Tip), answerCall("Answer of another", a, run(1, 6), a.Tip+1))
	}
	for _, a := range []api.Arp{{Op: 3, Smac: run(1, 6), Tmac: run(7, 6)}, {Op: 1, Smac: run(1, 7), Tmac: run(7, 6)}, {Op: 1, Smac: run(1, 6), Tmac: run(7, 5)}, {}} {
		list = append(list, putArpCall("PutArp of another", a), answerCall("Answer of others", a, run(1, 6), 0), answerCall("Answer by another", a, run(1, 7), 0))
	}
	return list
}

func putCall(name string, f api.Frame) call {
	return call{name, [][]byte{f.Dst, f.Src, f.Data}, func(in [][]byte) result {
		return ofBytes(Put(api.Frame{Dst: in[0], Src: in[1], Type: f.Type, Data: in[2]}))
	}}
}

func getCall(name string, b []byte) call {
	return call{name, [][]byte{b}, func(in [][]byte) result { return ofFrame(Get(in[0])) }}
}

func putArpCall(name string, a api.Arp) call {
	return call{name, [][]byte{a.Smac, a.Tmac}, func(in [][]byte) result {
		return ofBytes(PutArp(api.Arp{Op: a.Op, Smac: in[0], Sip: a.Sip, Tmac: in[1], Tip: a.Tip}))
	}}
}

func getArpCall(name string, b []byte) call {
	return call{name, [][]byte{b}, func(in [][]byte) result {
		a, e := GetArp(in[0])
		return ofArp(a, int(e))
	}}
}

func answerCall(name string, a api.Arp, mac []byte, ip uint32) call {
	return call{name, [][]byte{a.Smac, a.Tmac, mac}, func(in [][]byte) result {
		got, ok := Answer(api.Arp{Op: a.Op, Smac: in[0], Sip: a.Sip, Tmac: in[1], Tip: a.Tip}, in[2], ip)
		return ofArp(got, one(ok))
	}}
}

// handed answers the lists of a call with room about them, and all that each lies in.
func (c call) handed() ([][]byte, [][]byte) {
	in, all := make([][]byte, len(c.in)), make([][]byte, len(c.in))
	for i, b := range c.in {
		in[i], all[i] = roomy(b)
	}
	return in, all
}

// R3, R7: no call changes what is handed in, or what lies about it, and nothing of that counts.
func TestHandedInStays(t *testing.T) {
	for _, c := range calls() {
		in, all := c.handed()
		before := result{lists: all}.clone()
		got := c.do(in)
		if !got.is(c.do(c.in)) {
			t.Fatalf("%s(%x): %x with room about it", c.name, c.in, got)
		}
		if !before.is(result{lists: all}) {
			t.Fatalf("%s(%x): %x was %x", c.name, c.in, all, before.lists)
		}
	}
}

// R3: what is answered is new memory: neither it nor what is handed in reaches the other.
func TestAnswersUnshared(t *testing.T) {
	for _, c := range calls() {
		in, all := c.handed()
		before := result{lists: all}.clone()
		got := c.do(in)
		want := got.clone()
		scribble(all...)
		if !got.is(want) {
			t.Fatalf("%s(%x) goes with what was handed in", c.name, c.in)
		}
		scribble(all...)
		scribble(got.lists...)
		if !before.is(result{lists: all}) {
			t.Fatalf("what %s(%x) answers reaches what was handed in", c.name, c.in)
		}
	}
}

// R3: no part of an answer reaches another one, nor does what is put into the room behind its end, or appended to it.
func TestPartsUnshared(t *testing.T) {
	for _, c := range calls() {
		for i := range c.do(c.in).lists {
			got := c.do(c.in)
			want := got.clone()
			scribble(got.lists[i])
			scribble(want.lists[i])
			if !got.is(want) {
				t.Fatalf("%s(%x): part %d reaches another", c.name, c.in, i)
			}
			in, all := c.handed()
			before := result{lists: all}.clone()
			got = c.do(in)
			want = got.clone()
			longer := append(got.lists[i], bytes.Repeat([]byte{0xee}, 30)...)
			if !got.is(want) || len(longer) != len(want.lists[i])+30 {
				t.Fatalf("%s(%x): what is appended to part %d reaches another", c.name, c.in, i)
			}
			if !before.is(result{lists: all}) {
				t.Fatalf("%s(%x): what is appended to part %d reaches what was handed in", c.name, c.in, i)
			}
		}
	}
}

// R3: parts of what Get and GetArp answer end where they are cut: they have no room.
func TestPartsHaveNoRoom(t *testing.T) {
	for _, f := range frames() {
		b, _ := Put(f)
		got, _ := Get(slices.Concat(b)[:len(b)])
		if cap(got.Dst) != 6 || cap(got.Src) != 6 {
			t.Fatalf("room for %d and %d bytes", cap(got.Dst), cap(got.Src))
		}
	}
	for _, a := range messages() {
		b, _ := PutArp(a)
		got, _ := GetArp(slices.Concat(b, run(1, 50)))
		if cap(got.Smac) != 6 || cap(got.Tmac) != 6 {
			t.Fatalf("room for %d and %d bytes", cap(got.Smac), cap(got.Tmac))
		}
	}
}

// R3: an answer's two addresses are not one memory where both were.
func TestAnswerOfOneMac(t *testing.T) {
	mac := run(1, 6)
	got, ok := Answer(api.Arp{Op: 1, Smac: mac, Tmac: mac}, mac, 0)
	if !ok {
		t.Fatal("no answer")
	}
	scribble(got.Smac)
	if !bytes.Equal(got.Tmac, run(1, 6)) || !bytes.Equal(mac, run(1, 6)) {
		t.Errorf("Tmac % x, mac % x", got.Tmac, mac)
	}
	// Lists that lie over one another are put as they are.
	all := run(1, 30)
	f := api.Frame{Dst: all[:6], Src: all[3:9], Type: 5, Data: all[1:20]}
	puts(t, f)
	putsArp(t, api.Arp{Op: 2, Smac: all[:6], Tmac: all[5:11]})
	if !bytes.Equal(all, run(1, 30)) {
		t.Errorf("% x", all)
	}
}

// R3, R4: what was answered stays when later calls are made, and when what they answer is overwritten; the same call answers the same.
func TestAnswersStay(t *testing.T) {
	list := calls()
	var got, want []result
	for _, c := range list {
		r := c.do(c.in)
		got, want = append(got, r), append(want, r.clone())
	}
	for i, c := range list {
		again := c.do(c.in)
		if !again.is(want[i]) {
			t.Fatalf("%s(%x) = %x, then %x", c.name, c.in, want[i], again)
		}
		scribble(again.lists...)
		if again = c.do(c.in); !again.is(want[i]) {
			t.Fatalf("%s(%x) = %x, then %x", c.name, c.in, want[i], again)
		}
	}
	for i, c := range list {
		if !got[i].is(want[i]) {
			t.Fatalf("%s(%x): %x was %x", c.name, c.in, got[i], want[i])
		}
	}
}

// R1, R3, R6: at whatever they are given no call panics, and nil and empty lists are the same.
func TestByChance(t *testing.T) {
	next := chance()
	size := func() int {
		if next()%3 != 0 {
			return 6
		}
		return next() % 9
	}
	list := func() []byte {
		b := text(size(), next)
		if len(b) == 0 && next()%2 == 0 {
			return nil
		}
		return b
	}
	number := func(few int) int {
		if next()%8 == 0 {
			return next() - next()
		}
		return next()%few - few/8
	}
	for range 60000 {
		f := api.Frame{Dst: list(), Src: list(), Type: number(80000), Data: text(next()%60, next)}
		puts(t, f)
		a := api.Arp{Op: number(8), Smac: list(), Sip: uint32(next()), Tmac: list(), Tip: uint32(next() % 4)}
		putsArp(t, a)
		answers(t, a, list(), uint32(next()%4))
		b := text(next()%60, next)
		gets(t, b)
		getsArp(t, b)
		copy(b, []byte{0, 1, 8, 0, 6, 4, 0})
		if len(b) > 7 {
			b[7] %= 4
		}
		getsArp(t, b)
	}
}
