package dns

import (
	"bytes"
	"slices"
	"strings"
	"testing"

	"drawbridge/api"
)

// marker stands in the room before lists and behind their ends.
const (
	marker = 0x77
	room   = 40
)

// roomy answers a list like b, with room before it and behind its end, and all that it lies in.
func roomy(b []byte) ([]byte, []byte) {
	edge := bytes.Repeat([]byte{marker}, room)
	all := slices.Concat(edge, b, edge)
	return all[room : room+len(b)], all
}

// scribble overwrites a list, and the room behind its end.
func scribble(b []byte) {
	all := b[:cap(b)]
	for i := range all {
		all[i] ^= 0xff
	}
}

// result is what a call answers: the list, the text, whether it is refused, and all besides.
type result struct {
	list    []byte
	text    string
	refused bool
	rest    [2]int
}

// clone answers a result like r, which shares nothing with it.
func (r result) clone() result {
	return result{append([]byte{}, r.list...), strings.Clone(r.text), r.refused, r.rest}
}

// is tells whether two results are the same.
func (r result) is(s result) bool {
	return r.text == s.text && r.refused == s.refused && r.rest == s.rest && bytes.Equal(r.list, s.list)
}

// call is one with the list that it is handed in.
type call struct {
	name string
	in   []byte
	do   func(in []byte) result
}

func questionCall(name string, b []byte) call {
	return call{name, b, func(in []byte) result {
		s, kind, e := Question(in)
		return result{text: s, refused: e != api.OK, rest: [2]int{kind, int(e)}}
	}}
}

func idCall(name string, b []byte) call {
	return call{name, b, func(in []byte) result {
		id, ok := Id(in)
		return result{refused: !ok, rest: [2]int{id}}
	}}
}

func withCall(name string, b []byte, id int) call {
	return call{name, b, func(in []byte) result { return result{list: With(in, id)} }}
}

func queryCall(name string, b []byte) call {
	return call{name, b, func(in []byte) result { return result{refused: !Query(in)} }}
}

func failCall(name string, b []byte, code int) call {
	return call{name, b, func(in []byte) result {
		answer, ok := Fail(in, code)
		return result{list: answer, refused: !ok}
	}}
}

// allOf answers each call with a list.
func allOf(name string, b []byte) []call {
	return []call{
		questionCall("Question of "+name, b), idCall("Id of "+name, b), withCall("With of "+name, b, 0xe7e8), queryCall("Query of "+name, b), failCall("Fail of "+name, b, 3),
	}
}

// calls are all that are handed in a list, done and refused.
func calls() []call {
	var list []call
	next := chance()
	for _, n := range []int{0, 1, 2, 5, 30, 100, 252, 253} {
		b := asking(labelled(named(n, 1+next()%63, next)), tail())
		list = append(list, allOf("a question", b)...)
		list = append(list, allOf("more", slices.Concat(b, run(1, 50)))...)
		list = append(list, allOf("an answer", as(b, 2, 0x81))...)
		list = append(list, allOf("fewer", b[:len(b)-1])...)
		list = append(list, allOf("several", as(b, 5, 2))...)
		list = append(list, allOf("no label", as(b, 12, 64))...)
	}
	for n := range 14 {
		list = append(list, allOf("few", run(n, n))...)
	}
	return append(list, allOf("nothing", nil)...)
}

// R3, R7: no call changes what is handed in, or what lies about it, and nothing of that counts.
func TestHandedInStays(t *testing.T) {
	for _, c := range calls() {
		in, all := roomy(c.in)
		before := bytes.Clone(all)
		got := c.do(in)
		if !got.is(c.do(c.in)) {
			t.Fatalf("%s(% x): %v with room about it", c.name, c.in, got)
		}
		if !bytes.Equal(before, all) {
			t.Fatalf("%s(% x): % x was % x", c.name, c.in, all, before)
		}
	}
}

// R3: what is answered is new memory: neither it nor what is handed in reaches the other.
func TestAnswersUnshared(t *testing.T) {
	for _, c := range calls() {
		in, all := roomy(c.in)
		before := bytes.Clone(all)
		got := c.do(in)
		want := got.clone()
		scribble(all)
		if !got.is(want) {
			t.Fatalf("%s(% x) goes with what was handed in", c.name, c.in)
		}
		scribble(all)
		scribble(got.list)
		if !bytes.Equal(before, all) {
			t.Fatalf("what %s(% x) answers reaches what was handed in", c.name, c.in)
		}
	}
}

// R3: nothing that is appended to an answer reaches what was handed in, or another answer.
func TestAppendedUnshared(t *testing.T) {
	for _, c := range calls() {
		for _, many := range []int{1, 30} {
			in, all := roomy(c.in)
			before := bytes.Clone(all)
			first, second := c.do(in), c.do(in)
			want := second.clone()
			longer := append(first.list, bytes.Repeat([]byte{0xee}, many)...)
			if !bytes.Equal(before, all) || !second.is(want) || len(longer) != len(want.list)+many {
				t.Fatalf("what is appended to %s(% x) reaches others", c.name, c.in)
			}
		}
	}
}

// R2, R6: beside an error or a false all else is zero.
func TestRefusedIsEmpty(t *testing.T) {
	for _, c := range calls() {
		got := c.do(c.in)
		if got.refused && (len(got.list) != 0 || got.text != "" || got.rest[0] != 0) {
			t.Fatalf("%s(% x) = %v", c.name, c.in, got)
		}
	}
}

// R3, R4: what was answered stays when later calls are made, and when what they answer is overwritten; the same call answers the same.
func TestAnswersStay(t *testing.T) {
	list := calls()
	var got, want []result
	for _, c := range list {
		r := c.do(c.in)
		got, want = append(got, r), append(want, r.clone())
	}
	for i, c := range list {
		for range 20 {
			again := c.do(c.in)
			if !again.is(want[i]) {
				t.Fatalf("%s(% x) = %v, then %v", c.name, c.in, want[i], again)
			}
			scribble(again.list)
		}
	}
	for i, c := range list {
		if !got[i].is(want[i]) {
			t.Fatalf("%s(% x): %v was %v", c.name, c.in, got[i], want[i])
		}
	}
}

// R3, R4: what Ask answers is new memory each time, and stays.
func TestAskUnshared(t *testing.T) {
	var got, want [][]byte
	list := []string{"", ".", "a", "a.bc", "Www.Example.org.", named(253, 63, chance())}
	for _, name := range list {
		b, _ := Ask(9, name, 28)
		got, want = append(got, b), append(want, bytes.Clone(b))
	}
	for i, name := range list {
		for range 20 {
			again, e := Ask(9, name, 28)
			if e != api.OK || !bytes.Equal(again, want[i]) {
				t.Fatalf("Ask(%q) = % x, %d, then % x", name, want[i], e, again)
			}
			longer := append(again, 0xee)
			scribble(longer)
			scribble(again)
		}
	}
	for i := range list {
		if !bytes.Equal(got[i], want[i]) {
			t.Fatalf("Ask(%q): % x was % x", list[i], got[i], want[i])
		}
	}
}

// R3: the name that Question answered stays when the bytes go on to other calls, and those are overwritten.
func TestNameStays(t *testing.T) {
	b, _ := Ask(7, "A.bc", 1)
	name, kind, _ := Question(b)
	other := With(b, 8)
	answer, ok := Fail(other, 3)
	scribble(b)
	scribble(other)
	if name != "a.bc" || kind != 1 || !ok || !bytes.Equal(answer, []byte{0, 8, 129, 131, 0, 1, 0, 0, 0, 0, 0, 0, 1, 'A', 2, 'b', 'c', 0, 0, 1, 0, 1}) {
		t.Errorf("%q, %d, % x, %v", name, kind, answer, ok)
	}
}

// R1, R3, R6: at whatever they are given no call panics, and all answer as the chapter has it.
func TestByChance(t *testing.T) {
	next := chance()
	every := func(b []byte) {
		id, code := next()-next(), next()-next()
		ids(t, b)
		withs(t, b, id)
		queries(t, b)
		questions(t, b)
		failing(t, b, code)
	}
	for range 60000 {
		every(text(next()%300, next))
		b := head()
		for range next() % 7 {
			b = append(b, label(word(next()%(1+next()%64), next))...)
		}
		b = append(b, text(next()%8, next)...)
		switch next() % 4 {
		case 0:
			b[next()%len(b)] ^= byte(1 << (next() % 8))
		case 1:
			b = b[:next()%(len(b)+1)]
		}
		every(b)
		name := []byte(named(next()%260, 1+next()%70, next))
		if len(name) > 0 && next()%2 == 0 {
			name[next()%len(name)] = "._-Zz9!\x00\xff"[next()%9]
		}
		puts(t, next()%65540-2, string(name), next()%65540-2)
	}
}
