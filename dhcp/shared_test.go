package dhcp

import (
	"bytes"
	"slices"
	"testing"

	"drawbridge/api"
)

// marker stands in the room before lists and behind their ends.
const (
	marker = 0x77
	room   = 40
)

// roomy answers a list like b, with room before it and behind its end, and all that it lies in.
func roomy(b []byte) ([]byte, []byte) {
	edge := bytes.Repeat([]byte{marker}, room)
	all := slices.Concat(edge, b, edge)
	return all[room : room+len(b)], all
}

// scribble overwrites a list, and the room behind its end.
func scribble(b []byte) {
	all := b[:cap(b)]
	for i := range all {
		all[i] ^= 0xff
	}
}

// result is what a call answers: the list, the number, and all besides.
type result struct {
	list   []byte
	number api.Errno
	rest   [11]int
}

// clone answers a result like r, which shares nothing with it.
func (r result) clone() result { return result{append([]byte{}, r.list...), r.number, r.rest} }

// is tells whether two results are the same.
func (r result) is(s result) bool {
	return r.number == s.number && r.rest == s.rest && bytes.Equal(r.list, s.list)
}

// call is one with the list that it is handed in.
type call struct {
	name string
	in   []byte
	do   func(in []byte) result
}

func putCall(name string, d api.Dhcp) call {
	return call{name, d.Mac, func(in []byte) result {
		m := d
		m.Mac = in
		b, e := Put(m)
		return result{list: b, number: e}
	}}
}

func getCall(name string, b []byte) call {
	return call{name, b, func(in []byte) result {
		d, e := Get(in)
		return result{d.Mac, e, bare(d)}
	}}
}

// calls are all that are handed in a list, done and refused.
func calls() []call {
	var list []call
	next := chance()
	for range 12 {
		d := byChance(next)
		b := written(d)
		list = append(list, putCall("Put", d), getCall("Get", b), getCall("Get of more", slices.Concat(b, run(1, 50))))
		list = append(list, getCall("Get of fewer", b[:239]), getCall("Get of no type", b[:240]), getCall("Get of half an option", b[:242]))
		d.Type = 9
		list = append(list, putCall("Put of one that may not be", d))
	}
	for n := range 12 {
		d := full()
		d.Mac = run(1, n)
		list = append(list, putCall("Put with a Mac", d), getCall("Get of few", run(n, n)), getCall("Get with options", optioned(typed(1), option(6, run(1, n)))))
	}
	return append(list, putCall("Put of a zero message", api.Dhcp{}), getCall("Get of nothing", nil), putCall("Put of the greatest", greatest()), getCall("Get of the greatest", written(greatest())))
}

// R3, R7: no call changes what is handed in, or what lies about it, and nothing of that counts.
func TestHandedInStays(t *testing.T) {
	for _, c := range calls() {
		in, all := roomy(c.in)
		before := bytes.Clone(all)
		got := c.do(in)
		if !got.is(c.do(c.in)) {
			t.Fatalf("%s(% x): %v with room about it", c.name, c.in, got)
		}
		if !bytes.Equal(before, all) {
			t.Fatalf("%s(% x): % x was % x", c.name, c.in, all, before)
		}
	}
}

// R3: what is answered is new memory: neither it nor what is handed in reaches the other.
func TestAnswersUnshared(t *testing.T) {
	for _, c := range calls() {
		in, all := roomy(c.in)
		before := bytes.Clone(all)
		got := c.do(in)
		want := got.clone()
		scribble(all)
		if !got.is(want) {
			t.Fatalf("%s(% x) goes with what was handed in", c.name, c.in)
		}
		scribble(all)
		scribble(got.list)
		if !bytes.Equal(before, all) {
			t.Fatalf("what %s(% x) answers reaches what was handed in", c.name, c.in)
		}
	}
}

// R3: nothing that is appended to an answer reaches what was handed in, or another answer.
func TestAppendedUnshared(t *testing.T) {
	for _, c := range calls() {
		for _, many := range []int{1, 30} {
			in, all := roomy(c.in)
			before := bytes.Clone(all)
			first, second := c.do(in), c.do(in)
			want := second.clone()
			longer := append(first.list, bytes.Repeat([]byte{0xee}, many)...)
			if !bytes.Equal(before, all) || !second.is(want) || len(longer) != len(want.list)+many {
				t.Fatalf("what is appended to %s(% x) reaches others", c.name, c.in)
			}
		}
	}
}

// R2, R6: beside an error all else is zero, and an error alone says so.
func TestRefusedIsEmpty(t *testing.T) {
	for _, c := range calls() {
		got := c.do(c.in)
		if got.number != api.OK && !got.is(result{number: got.number}) || got.number == api.OK && len(got.list) == 0 {
			t.Fatalf("%s(% x) = %v", c.name, c.in, got)
		}
	}
}

// R3, R4: what was answered stays when later calls are made, and when what they answer is overwritten; the same call answers the same.
func TestAnswersStay(t *testing.T) {
	list := calls()
	var got, want []result
	for _, c := range list {
		r := c.do(c.in)
		got, want = append(got, r), append(want, r.clone())
	}
	for i, c := range list {
		for range 20 {
			again := c.do(c.in)
			if !again.is(want[i]) {
				t.Fatalf("%s(% x) = %v, then %v", c.name, c.in, want[i], again)
			}
			scribble(again.list)
		}
	}
	for i, c := range list {
		if !got[i].is(want[i]) {
			t.Fatalf("%s(% x): %v was %v", c.name, c.in, got[i], want[i])
		}
	}
}

// R3: what was got is put again; neither the bytes, nor the message, nor the bytes it was got from reach one another.
func TestPutOfWhatWasGot(t *testing.T) {
	all := written(full())
	got, e := Get(all)
	if e != api.OK {
		t.Fatal(e)
	}
	b, e := Put(got)
	if e != api.OK || !bytes.Equal(b, all) {
		t.Fatalf("Put = % x, %d", b, e)
	}
	scribble(b)
	if !same(got, full()) || !bytes.Equal(all, written(full())) {
		t.Errorf("%+v, % x", got, all)
	}
	scribble(got.Mac)
	if !bytes.Equal(all, written(full())) {
		t.Errorf("% x", all)
	}
}

// R1, R3, R6: at whatever they are given no call panics, and nil and empty lists are the same.
func TestByChance(t *testing.T) {
	next := chance()
	numbers := []byte{0, 1, 3, 6, 50, 51, 53, 54, 99, 255}
	for range 60000 {
		d := byChance(next)
		switch next() % 12 {
		case 0:
			d.Op = next()%5 - 1
		case 1:
			d.Type = next()%14 - 2
		case 2:
			d.Mac = text(next()%9, next)
		case 3:
			d.Op, d.Type, d.Mac = next()-next(), next()-next(), nil
		}
		puts(t, d)
		gets(t, text(next()%300, next))
		b := headWritten(byChance(next))
		if next()%2 == 0 {
			b = append(b, typed(byte(next()%10))...)
		}
		for range next() % 8 {
			b = append(b, numbers[next()%len(numbers)], byte(next()%6))
			b = append(b, text(next()%6, next)...)
		}
		if next()%4 == 0 {
			b[next()%len(b)] ^= byte(1 << (next() % 8))
		}
		gets(t, b)
	}
}
