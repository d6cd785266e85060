package seg

import (
	"bytes"
	"slices"
	"testing"

	"drawbridge/api"
)

// marker stands in the room before lists and behind their ends.
const (
	marker = 0x77
	room   = 40
)

// roomy answers a list like b, with room before it and behind its end, and all that it lies in.
func roomy(b []byte) ([]byte, []byte) {
	edge := bytes.Repeat([]byte{marker}, room)
	all := slices.Concat(edge, b, edge)
	return all[room : room+len(b)], all
}

// scribble overwrites a list, and the room behind its end.
func scribble(b []byte) {
	all := b[:cap(b)]
	for i := range all {
		all[i] ^= 0xff
	}
}

// result is what a call answers: the list, and all besides.
type result struct {
	list []byte
	rest [8]int
}

// clone answers a result like r, which shares nothing with it.
func (r result) clone() result { return result{append([]byte{}, r.list...), r.rest} }

// is tells whether two results are the same.
func (r result) is(s result) bool { return r.rest == s.rest && bytes.Equal(r.list, s.list) }

// call is one with the list that it is handed in.
type call struct {
	name string
	in   []byte
	do   func(in []byte) result
}

func putCall(name string, s sent) call {
	return call{name, s.s.Data, func(in []byte) result {
		u := s.s
		u.Data = in
		b, e := Put(u, s.src, s.dst)
		return result{b, [8]int{int(e)}}
	}}
}

func getCall(name string, b []byte, src uint32, dst uint32) call {
	return call{name, b, func(in []byte) result {
		s, e := Get(in, src, dst)
		return result{s.Data, [8]int{int(e), s.Src, s.Dst, int(s.Seq), int(s.Ack), s.Flags, s.Win, s.Mss}}
	}}
}

func lenCall(name string, s api.Seg) call {
	return call{name, s.Data, func(in []byte) result {
		u := s
		u.Data = in
		return result{nil, [8]int{int(api.OK), Len(u)}}
	}}
}

// calls are all that are handed in a list, done and refused.
func calls() []call {
	var list []call
	next := chance()
	for _, n := range []int{0, 1, 2, 3, 8, 9, 100, 1461} {
		for range 4 {
			s := byChance(n, next)
			b := s.bytes()
			list = append(list, putCall("Put", s), getCall("Get", b, s.src, s.dst), lenCall("Len", s.s))
			list = append(list, getCall("Get of more", summed(slices.Concat(b, run(1, 50)), s.src, s.dst), s.src, s.dst))
			list = append(list, getCall("Get of another's", b, s.dst, s.src+1), getCall("Get of fewer", b[:19], s.src, s.dst))
			list = append(list, getCall("Get of a head that is too short", words(b, 4), guest, remote), getCall("Get of one that is too long", words(b[:20], 6), guest, remote))
			s.s.Src = 65536
			list = append(list, putCall("Put of one that may not be", s), lenCall("Len of one that may not be", s.s))
		}
	}
	for n := range 24 {
		list = append(list, getCall("Get of few", run(n, n), guest, remote))
	}
	for _, options := range [][]byte{{1, 1, 1, 1}, {0, 9, 9, 9}, {2, 4, 5, 6}, {2, 5, 5, 6}, {1, 1, 1, 2}, {8, 6, 1, 2, 3, 4, 2, 2}} {
		list = append(list, getCall("Get with options", optioned(options, 1, 9), guest, remote), getCall("Get with just options", optioned(options, 1, 0), guest, remote))
	}
	return append(list, putCall("Put of a zero segment", sent{}), putCall("Put of too many bytes", sent{s: plain(60001)}))
}

// R3, R7: no call changes what is handed in, or what lies about it, and nothing of that counts.
func TestHandedInStays(t *testing.T) {
	for _, c := range calls() {
		in, all := roomy(c.in)
		before := bytes.Clone(all)
		got := c.do(in)
		if !got.is(c.do(c.in)) {
			t.Fatalf("%s(% x): %v with room about it", c.name, c.in, got)
		}
		if !bytes.Equal(before, all) {
			t.Fatalf("%s(% x): % x was % x", c.name, c.in, all, before)
		}
	}
}

// R3: what is answered is new memory: neither it nor what is handed in reaches the other.
func TestAnswersUnshared(t *testing.T) {
	for _, c := range calls() {
		in, all := roomy(c.in)
		before := bytes.Clone(all)
		got := c.do(in)
		want := got.clone()
		scribble(all)
		if !got.is(want) {
			t.Fatalf("%s(% x) goes with what was handed in", c.name, c.in)
		}
		scribble(all)
		scribble(got.list)
		if !bytes.Equal(before, all) {
			t.Fatalf("what %s(% x) answers reaches what was handed in", c.name, c.in)
		}
	}
}

// R3: nothing that is appended to an answer reaches what was handed in, or another answer.
func TestAppendedUnshared(t *testing.T) {
	for _, c := range calls() {
		for _, many := range []int{1, 30} {
			in, all := roomy(c.in)
			before := bytes.Clone(all)
			first, second := c.do(in), c.do(in)
			want := second.clone()
			longer := append(first.list, bytes.Repeat([]byte{0xee}, many)...)
			if !bytes.Equal(before, all) || !second.is(want) || len(longer) != len(want.list)+many {
				t.Fatalf("what is appended to %s(% x) reaches others", c.name, c.in)
			}
		}
	}
}

// R3: beside an error there is no list, and an error alone says so.
func TestRefusedIsEmpty(t *testing.T) {
	for _, c := range calls() {
		got := c.do(c.in)
		if got.rest[0] != int(api.OK) && !got.is(result{nil, [8]int{got.rest[0]}}) {
			t.Fatalf("%s(% x) = %v", c.name, c.in, got)
		}
	}
}

// R3, R4: what was answered stays when later calls are made, and when what they answer is overwritten; the same call answers the same.
func TestAnswersStay(t *testing.T) {
	list := calls()
	var got, want []result
	for _, c := range list {
		r := c.do(c.in)
		got, want = append(got, r), append(want, r.clone())
	}
	for i, c := range list {
		for range 2 {
			again := c.do(c.in)
			if !again.is(want[i]) {
				t.Fatalf("%s(% x) = %v, then %v", c.name, c.in, want[i], again)
			}
			scribble(again.list)
		}
	}
	for i, c := range list {
		if !got[i].is(want[i]) {
			t.Fatalf("%s(% x): %v was %v", c.name, c.in, got[i], want[i])
		}
	}
}

// R3: what was got is put again; neither the bytes, nor the segment, nor the bytes it was got from reach one another.
func TestPutOfWhatWasGot(t *testing.T) {
	all := written(40)
	got, e := Get(all, guest, remote)
	if e != api.OK {
		t.Fatal(e)
	}
	b, e := Put(got, guest, remote)
	if e != api.OK || !bytes.Equal(b, all) {
		t.Fatalf("Put = % x, %d", b, e)
	}
	scribble(b)
	if !same(got, plain(40)) || !bytes.Equal(all, written(40)) {
		t.Errorf("%+v, % x", got, all)
	}
	scribble(got.Data)
	if !bytes.Equal(all, written(40)) {
		t.Errorf("% x", all)
	}
}

// R1, R3, R6: at whatever they are given no call panics, and nil and empty lists are the same.
func TestByChance(t *testing.T) {
	next := chance()
	list := func(most int) []byte {
		b := text(next()%most, next)
		if len(b) == 0 && next()%2 == 0 {
			return nil
		}
		return b
	}
	for range 60000 {
		s := byChance(0, next)
		s.s.Data = list(90)
		for _, n := range numbers() {
			if next()%20 == 0 {
				*n.at(&s.s) = next()%(2*n.most) - n.most/2
			}
			if next()%40 == 0 {
				*n.at(&s.s) = next() - next()
			}
		}
		puts(t, s)
		b := list(90)
		gets(t, b, s.src, s.dst)
		if len(b) < 20 {
			continue
		}
		gets(t, summed(b, s.src, s.dst), s.src, s.dst)
		for at := 20; at < len(b); at++ {
			if next()%2 == 0 {
				b[at] %= 6
			}
		}
		b[12] = byte(next()%(1+len(b)/4)) << 4
		gets(t, summed(b, s.src, s.dst), s.src, s.dst)
	}
}
