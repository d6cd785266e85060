package ip

import (
	"bytes"
	"slices"
	"testing"

	"drawbridge/api"
)

// marker stands in the room before lists and behind their ends.
const (
	marker = 0x77
	room   = 40
)

// roomy answers a list like b, with room before it and behind its end, and all that it lies in.
func roomy(b []byte) ([]byte, []byte) {
	edge := bytes.Repeat([]byte{marker}, room)
	all := slices.Concat(edge, b, edge)
	return all[room : room+len(b)], all
}

// scribble overwrites lists, and the room behind their ends.
func scribble(lists ...[]byte) {
	for _, b := range lists {
		all := b[:cap(b)]
		for i := range all {
			all[i] ^= 0xff
		}
	}
}

// result is what a call answers: the lists, and all besides.
type result struct {
	lists [][]byte
	rest  []int
}

// clone answers a result like r, which shares nothing with it.
func (r result) clone() result {
	var lists [][]byte
	for _, b := range r.lists {
		lists = append(lists, append([]byte{}, b...))
	}
	return result{lists, slices.Clone(r.rest)}
}

// is tells whether two results are the same.
func (r result) is(s result) bool {
	return slices.Equal(r.rest, s.rest) && slices.EqualFunc(r.lists, s.lists, bytes.Equal)
}

// ofBytes and ofPackets answer the results of what was answered, with a number beside it.
func ofBytes(b []byte, e int) result { return result{[][]byte{b}, []int{e}} }

func ofPackets(e api.Errno, l ...api.Ip) result {
	r := result{nil, []int{int(e), len(l)}}
	for _, p := range l {
		r.lists = append(r.lists, p.Options, p.Data)
		r.rest = append(r.rest, p.Tos, p.Id, p.Flags, p.Off, p.Ttl, p.Proto, int(p.Src), int(p.Dst))
	}
	return r
}

// call is one with the lists that it is handed in.
type call struct {
	name string
	in   [][]byte
	do   func(in [][]byte) result
}

// with answers p with the lists that are handed in.
func with(p api.Ip, in [][]byte) api.Ip {
	p.Options, p.Data = in[0], in[1]
	return p
}

func putCall(name string, p api.Ip) call {
	return call{name, [][]byte{p.Options, p.Data}, func(in [][]byte) result {
		b, e := Put(with(p, in))
		return ofBytes(b, int(e))
	}}
}

func getCall(name string, b []byte) call {
	return call{name, [][]byte{b}, func(in [][]byte) result {
		p, e := Get(in[0])
		return ofPackets(e, p)
	}}
}

func cutCall(name string, p api.Ip, mtu int) call {
	return call{name, [][]byte{p.Options, p.Data}, func(in [][]byte) result {
		l, e := Cut(with(p, in), mtu)
		return ofPackets(e, l...)
	}}
}

func echoCall(name string, b []byte) call {
	return call{name, [][]byte{b}, func(in [][]byte) result {
		got, ok := Echo(in[0])
		if ok {
			return ofBytes(got, 1)
		}
		return ofBytes(got, 0)
	}}
}

// calls are all four, done and refused.
func calls() []call {
	var list []call
	next := chance()
	for _, options := range []int{0, 4, 20, 40} {
		for _, data := range []int{0, 1, 8, 9, 100} {
			p := byChance(options, data, next)
			list = append(list, putCall("Put", p), getCall("Get", bytesOf(p)), getCall("Get of more", slices.Concat(bytesOf(p), run(1, 50))))
			for _, mtu := range []int{0, 20 + options, 28 + options, 43 + options, 60 + options, 1500} {
				p.Off, p.Flags = p.Off%4000, p.Flags&5
				list = append(list, cutCall("Cut", p, mtu))
				p.Flags = 2
				list = append(list, cutCall("Cut of one that may not be", p, mtu))
			}
			p.Ttl = 256
			list = append(list, putCall("Put of another", p), cutCall("Cut of another", p, 40))
		}
	}
	good := bytesOf(plain(8, 30))
	for n := range good {
		list = append(list, getCall("Get of fewer", good[:n]), getCall("Get of others", run(n, 80)))
	}
	list = append(list, getCall("Get of a wrong one", append([]byte{0x46}, good[1:]...)), getCall("Get of one that tells less", told(good, 27)))
	list = append(list, putCall("Put of wrong Options", plain(6, 30)), putCall("Put of a zero packet", api.Ip{}), cutCall("Cut of a zero packet", api.Ip{}, 20))
	for n := 8; n < 40; n++ {
		b := echo(n, next)
		list = append(list, echoCall("Echo", b), echoCall("Echo of an answer", summed(append([]byte{0}, b[1:]...), 2)), echoCall("Echo of others", run(n, n)))
	}
	return list
}

// handed answers the lists of a call with room about them, and all that each lies in.
func (c call) handed() ([][]byte, [][]byte) {
	in, all := make([][]byte, len(c.in)), make([][]byte, len(c.in))
	for i, b := range c.in {
		in[i], all[i] = roomy(b)
	}
	return in, all
}

// R3, R7: no call changes what is handed in, or what lies about it, and nothing of that counts.
func TestHandedInStays(t *testing.T) {
	for _, c := range calls() {
		in, all := c.handed()
		before := result{lists: all}.clone()
		got := c.do(in)
		if !got.is(c.do(c.in)) {
			t.Fatalf("%s(%x): %x with room about it", c.name, c.in, got)
		}
		if !before.is(result{lists: all}) {
			t.Fatalf("%s(%x): %x was %x", c.name, c.in, all, before.lists)
		}
	}
}

// R3: what is answered is new memory: neither it nor what is handed in reaches the other.
func TestAnswersUnshared(t *testing.T) {
	for _, c := range calls() {
		in, all := c.handed()
		before := result{lists: all}.clone()
		got := c.do(in)
		want := got.clone()
		scribble(all...)
		if !got.is(want) {
			t.Fatalf("%s(%x) goes with what was handed in", c.name, c.in)
		}
		scribble(all...)
		scribble(got.lists...)
		if !before.is(result{lists: all}) {
			t.Fatalf("what %s(%x) answers reaches what was handed in", c.name, c.in)
		}
	}
}

// R3: no part of an answer reaches another one, with the room behind its end, too.
func TestPartsUnshared(t *testing.T) {
	for _, c := range calls() {
		for i := range c.do(c.in).lists {
			got := c.do(c.in)
			want := got.clone()
			scribble(got.lists[i])
			scribble(want.lists[i])
			if !got.is(want) {
				t.Fatalf("%s(%x): part %d reaches another", c.name, c.in, i)
			}
		}
	}
}

// R3: nothing that is appended to a part of an answer reaches another part, or what was handed in.
func TestAppendedUnshared(t *testing.T) {
	for _, c := range calls() {
		for i := range c.do(c.in).lists {
			for _, many := range []int{1, 30} {
				in, all := c.handed()
				before := result{lists: all}.clone()
				got := c.do(in)
				want := got.clone()
				longer := append(got.lists[i], bytes.Repeat([]byte{0xee}, many)...)
				if !got.is(want) || len(longer) != len(want.lists[i])+many {
					t.Fatalf("%s(%x): what is appended to part %d reaches another", c.name, c.in, i)
				}
				if !before.is(result{lists: all}) {
					t.Fatalf("%s(%x): what is appended to part %d reaches what was handed in", c.name, c.in, i)
				}
			}
		}
	}
}

// R3: parts of one memory end where they are cut: they have no room.
func TestPartsHaveNoRoom(t *testing.T) {
	for _, p := range packets() {
		got, _ := Get(slices.Concat(bytesOf(p), run(1, 50)))
		if cap(got.Options) != len(p.Options) || cap(got.Data) != len(p.Data) {
			t.Fatalf("room for %d and %d bytes", cap(got.Options), cap(got.Data))
		}
	}
	p := plain(4, 100)
	p.Flags = 0
	list, _ := Cut(p, 48)
	for _, q := range list {
		if cap(q.Data) != len(q.Data) {
			t.Fatalf("room for %d bytes of %d", cap(q.Data), len(q.Data))
		}
	}
	if len(list) != 5 {
		t.Errorf("%d pieces", len(list))
	}
}

// R3: Options and Data that lie over one another are put and cut as they are.
func TestListsOverOneAnother(t *testing.T) {
	all := run(1, 80)
	p := api.Ip{Options: all[4:44], Data: all[:75]}
	puts(t, p)
	for _, mtu := range []int{68, 76, 84, 135, 1500} {
		cuts(t, p, mtu)
		got, e := Cut(p, mtu)
		if e != api.OK {
			t.Fatal(e)
		}
		scribble(got[0].Options, got[0].Data)
	}
	if !bytes.Equal(all, run(1, 80)) {
		t.Errorf("% x", all)
	}
}

// R3, R4: what was answered stays when later calls are made, and when what they answer is overwritten; the same call answers the same.
func TestAnswersStay(t *testing.T) {
	list := calls()
	var got, want []result
	for _, c := range list {
		r := c.do(c.in)
		got, want = append(got, r), append(want, r.clone())
	}
	for i, c := range list {
		again := c.do(c.in)
		if !again.is(want[i]) {
			t.Fatalf("%s(%x) = %x, then %x", c.name, c.in, want[i], again)
		}
		scribble(again.lists...)
		if again = c.do(c.in); !again.is(want[i]) {
			t.Fatalf("%s(%x) = %x, then %x", c.name, c.in, want[i], again)
		}
	}
	for i, c := range list {
		if !got[i].is(want[i]) {
			t.Fatalf("%s(%x): %x was %x", c.name, c.in, got[i], want[i])
		}
	}
}

// R1, R3, R6: at whatever they are given no call panics, and nil and empty lists are the same.
func TestByChance(t *testing.T) {
	next := chance()
	list := func(most int) []byte {
		b := text(next()%most, next)
		if len(b) == 0 && next()%2 == 0 {
			return nil
		}
		return b
	}
	for range 60000 {
		p := byChance(next()%11*4, next()%120, next)
		p.Flags &= 5 + 2*(next()%2)
		if next()%4 == 0 {
			p.Options = list(50)
		}
		for _, n := range numbers() {
			if next()%40 == 0 {
				*n.at(&p) = next()%(2*n.most) - n.most/2
			}
		}
		puts(t, p)
		cuts(t, p, next()%200-20)
		cuts(t, p, next()-next())
		b := list(100)
		gets(t, b)
		echoes(t, b)
		if len(b) >= 60 {
			b[0] = byte(0x40 + next()%16)
			copy(b[2:], digits(next()%110, 2))
			if b[0] >= 0x43 {
				gets(t, righted(b))
			}
			gets(t, b)
		}
	}
}
