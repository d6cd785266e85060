package udp

import (
	"bytes"
	"slices"
	"testing"

	"drawbridge/api"
)

// marker stands in the room before lists and behind their ends.
const (
	marker = 0x77
	room   = 40
)

// roomy answers a list like b, with room before it and behind its end, and all that it lies in.
func roomy(b []byte) ([]byte, []byte) {
	edge := bytes.Repeat([]byte{marker}, room)
	all := slices.Concat(edge, b, edge)
	return all[room : room+len(b)], all
}

// scribble overwrites a list, and the room behind its end.
func scribble(b []byte) {
	all := b[:cap(b)]
	for i := range all {
		all[i] ^= 0xff
	}
}

// result is what a call answers: the list, and all besides.
type result struct {
	list []byte
	rest [3]int
}

// clone answers a result like r, which shares nothing with it.
func (r result) clone() result { return result{append([]byte{}, r.list...), r.rest} }

// is tells whether two results are the same.
func (r result) is(s result) bool { return r.rest == s.rest && bytes.Equal(r.list, s.list) }

// call is one with the list that it is handed in.
type call struct {
	name string
	in   []byte
	do   func(in []byte) result
}

func putCall(name string, s sent) call {
	return call{name, s.u.Data, func(in []byte) result {
		u := s.u
		u.Data = in
		b, e := Put(u, s.src, s.dst)
		return result{b, [3]int{int(e)}}
	}}
}

func getCall(name string, b []byte, src uint32, dst uint32) call {
	return call{name, b, func(in []byte) result {
		u, e := Get(in, src, dst)
		return result{u.Data, [3]int{int(e), u.Src, u.Dst}}
	}}
}

// calls are both, done and refused.
func calls() []call {
	var list []call
	next := chance()
	for _, n := range []int{0, 1, 2, 3, 8, 9, 100, 1473} {
		for range 4 {
			s := byChance(n, next)
			b := s.bytes()
			list = append(list, putCall("Put", s), getCall("Get", b, s.src, s.dst), getCall("Get with more behind", slices.Concat(b, run(1, 50)), s.src, s.dst))
			list = append(list, getCall("Get without a checksum", without(b), s.src, s.dst), getCall("Get of another's", b, s.dst, s.src+1))
			list = append(list, getCall("Get of fewer", b[:len(b)-1], s.src, s.dst), getCall("Get of one that tells less", told(b, 7), s.src, s.dst))
			s.u.Src = 65536
			list = append(list, putCall("Put of one that may not be", s))
		}
	}
	for n := range 12 {
		list = append(list, getCall("Get of few", run(n, n), guest, names))
	}
	return append(list, putCall("Put of a zero datagram", sent{}), putCall("Put of too many bytes", sent{u: plain(65508)}))
}

// R3, R7: no call changes what is handed in, or what lies about it, and nothing of that counts.
func TestHandedInStays(t *testing.T) {
	for _, c := range calls() {
		in, all := roomy(c.in)
		before := bytes.Clone(all)
		got := c.do(in)
		if !got.is(c.do(c.in)) {
			t.Fatalf("%s(% x): %v with room about it", c.name, c.in, got)
		}
		if !bytes.Equal(before, all) {
			t.Fatalf("%s(% x): % x was % x", c.name, c.in, all, before)
		}
	}
}

// R3: what is answered is new memory: neither it nor what is handed in reaches the other.
func TestAnswersUnshared(t *testing.T) {
	for _, c := range calls() {
		in, all := roomy(c.in)
		before := bytes.Clone(all)
		got := c.do(in)
		want := got.clone()
		scribble(all)
		if !got.is(want) {
			t.Fatalf("%s(% x) goes with what was handed in", c.name, c.in)
		}
		scribble(all)
		scribble(got.list)
		if !bytes.Equal(before, all) {
			t.Fatalf("what %s(% x) answers reaches what was handed in", c.name, c.in)
		}
	}
}

// R3: nothing that is appended to an answer reaches what was handed in, or another answer.
func TestAppendedUnshared(t *testing.T) {
	for _, c := range calls() {
		for _, many := range []int{1, 30} {
			in, all := roomy(c.in)
			before := bytes.Clone(all)
			first, second := c.do(in), c.do(in)
			want := second.clone()
			longer := append(first.list, bytes.Repeat([]byte{0xee}, many)...)
			if !bytes.Equal(before, all) || !second.is(want) || len(longer) != len(want.list)+many {
				t.Fatalf("what is appended to %s(% x) reaches others", c.name, c.in)
			}
		}
	}
}

// R3: beside an error there is no list, and an error alone says so.
func TestRefusedIsEmpty(t *testing.T) {
	for _, c := range calls() {
		got := c.do(c.in)
		if got.rest[0] != int(api.OK) && !got.is(result{nil, [3]int{got.rest[0]}}) {
			t.Fatalf("%s(% x) = %v", c.name, c.in, got)
		}
	}
}

// R3, R4: what was answered stays when later calls are made, and when what they answer is overwritten; the same call answers the same.
func TestAnswersStay(t *testing.T) {
	list := calls()
	var got, want []result
	for _, c := range list {
		r := c.do(c.in)
		got, want = append(got, r), append(want, r.clone())
	}
	for i, c := range list {
		for range 2 {
			again := c.do(c.in)
			if !again.is(want[i]) {
				t.Fatalf("%s(% x) = %v, then %v", c.name, c.in, want[i], again)
			}
			scribble(again.list)
		}
	}
	for i, c := range list {
		if !got[i].is(want[i]) {
			t.Fatalf("%s(% x): %v was %v", c.name, c.in, got[i], want[i])
		}
	}
}

// R1, R3, R6: at whatever they are given no call panics, and nil and empty lists are the same.
func TestByChance(t *testing.T) {
	next := chance()
	list := func(most int) []byte {
		b := text(next()%most, next)
		if len(b) == 0 && next()%2 == 0 {
			return nil
		}
		return b
	}
	for range 60000 {
		s := byChance(0, next)
		s.u.Data = list(90)
		if next()%8 == 0 {
			s.u.Src = next()%140000 - 35000
		}
		if next()%8 == 0 {
			s.u.Dst = next() - next()
		}
		puts(t, s)
		b := list(60)
		gets(t, b, s.src, s.dst)
		if len(b) < 8 {
			continue
		}
		copy(b[4:], digits(next()%70, 2))
		gets(t, b, s.src, s.dst)
		gets(t, without(b), s.src, s.dst)
		if size := int(b[5]); size >= 8 && size <= len(b) {
			gets(t, slices.Concat(summed(b[:size], s.src, s.dst), b[size:]), s.src, s.dst)
		}
	}
}
