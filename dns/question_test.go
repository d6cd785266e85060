package dns

import (
	"bytes"
	"errors"
	"slices"
	"strings"
	"testing"

	"drawbridge/api"
)

// questions tells of a Question that is not as the chapter has it.
func questions(t *testing.T, b []byte) {
	t.Helper()
	name, kind, e := Question(b)
	if n, k, number := questionOf(b); e != number || name != n || kind != k {
		t.Fatalf("Question(% x) = %q, %d, %d, not %q, %d, %d", b, name, kind, e, n, k, number)
	}
}

// reads tells of a Question that does not answer a name, and the kind of tail.
func reads(t *testing.T, b []byte, want string) {
	t.Helper()
	if name, kind, e := Question(b); e != api.OK || name != want || kind != 0xc1c2 {
		t.Fatalf("Question(% x) = %q, %#x, %d, not %q", b, name, kind, e, want)
	}
	questions(t, b)
}

// refuses tells of a Question that does not answer an error alone.
func refuses(t *testing.T, b []byte, want api.Errno) {
	t.Helper()
	if name, kind, e := Question(b); e != want || name != "" || kind != 0 {
		t.Fatalf("Question(% x) = %q, %d, %d, not %d", b, name, kind, e, want)
	}
	questions(t, b)
}

// P21.2: whole questions, told byte by byte.
func TestQuestionExamples(t *testing.T) {
	for _, c := range []struct {
		b    []byte
		name string
		kind int
	}{
		{[]byte{0, 7, 1, 0, 0, 1, 0, 0, 0, 0, 0, 0, 1, 'a', 2, 'b', 'c', 0, 0, 1, 0, 1}, "a.bc", 1},
		{[]byte{9, 9, 9, 9, 0, 1, 9, 9, 9, 9, 9, 9, 3, 'W', 'w', 'W', 4, 'g', 'O', '-', '_', 2, '0', '9', 0, 1, 2, 9, 9, 9}, "www.go-_.09", 258},
		{[]byte{0, 0, 0, 0, 0, 1, 0, 0, 0, 0, 0, 0, 0, 0, 0, 0, 0}, "", 0},
		{[]byte{255, 255, 255, 255, 0, 1, 255, 255, 255, 255, 255, 255, 1, 'Z', 0, 255, 255, 255, 255, 255}, "z", 65535},
	} {
		if name, kind, e := Question(c.b); e != api.OK || name != c.name || kind != c.kind {
			t.Errorf("Question(% x) = %q, %d, %d", c.b, name, kind, e)
		}
		questions(t, c.b)
	}
}

// P21.2: of 0 to 11 bytes, whatever they are; of 12 there are no labels.
func TestQuestionFewBytes(t *testing.T) {
	refuses(t, nil, api.ErrShort)
	for n := range 12 {
		for _, x := range []byte{0, 1, 2, 64, 'a', 255} {
			refuses(t, bytes.Repeat([]byte{x}, n), api.ErrShort)
		}
		refuses(t, head()[:n], api.ErrShort)
		refuses(t, as(head(), 4, 1)[:n], api.ErrShort)
	}
	refuses(t, head(), api.ErrShort)
	refuses(t, as(head(), 5, 0), api.ErrForm)
	refuses(t, make([]byte, 12), api.ErrForm)
	refuses(t, bytes.Repeat([]byte{255}, 12), api.ErrForm)
}

// P21.2: the third number through all values: just 1 is a question.
func TestQuestionCount(t *testing.T) {
	b := asking(label("ab"), end(), tail())
	for count := range 65536 {
		b[4], b[5] = byte(count>>8), byte(count)
		if count == 1 {
			reads(t, b, "ab")
			continue
		}
		if name, kind, e := Question(b); e != api.ErrForm || name != "" || kind != 0 {
			t.Fatalf("Question with %d questions = %q, %d, %d", count, name, kind, e)
		}
	}
	for _, count := range []int{0, 2, 255, 256, 257, 65535} {
		for _, rest := range [][]byte{nil, {0}, {64}, {1}, {1, '!'}, filled(255, 63)} {
			refuses(t, append(slices.Concat(head()[:4], digits(count), head()[6:]), rest...), api.ErrForm)
		}
	}
}

// P21.2: each other byte of the head through all values: none is looked at.
func TestQuestionHead(t *testing.T) {
	for at := range 12 {
		if at == 4 || at == 5 {
			continue
		}
		for x := range 256 {
			reads(t, as(asking(label("ab"), label("C"), end(), tail()), at, byte(x)), "ab.c")
		}
	}
	next := chance()
	for range 500 {
		b := slices.Concat(text(4, next), []byte{0, 1}, text(6, next), label("ab"), end(), tail())
		reads(t, b, "ab")
	}
}

// P21.2: one label of each size, 0, 1, 62 and 63 among them; 64 to 255 are none, whatever follows.
func TestQuestionSizes(t *testing.T) {
	for size := range 256 {
		s := strings.Repeat("k", size)
		alone, second := asking(label(s), end(), tail()), asking(label("one"), label(s), end(), tail())
		switch {
		case size == 0:
			// This is the end already, and all that follows one byte of more.
			reads(t, asking(label(s), tail()), "")
			reads(t, asking(label("one"), label(s), tail()), "one")
		case size < 64:
			reads(t, alone, s)
			reads(t, second, "one."+s)
		default:
			refuses(t, alone, api.ErrForm)
			refuses(t, second, api.ErrForm)
			refuses(t, asking([]byte{byte(size)}), api.ErrForm)
			refuses(t, asking([]byte{byte(size)}, end(), tail()), api.ErrForm)
			refuses(t, asking(label("one"), []byte{byte(size)}), api.ErrForm)
		}
	}
}

// P21.2: each of the 256 bytes within a label, in each place of it, in the first, a middle and the last label; capital letters come small.
func TestQuestionLetters(t *testing.T) {
	for x := range 256 {
		which := strings.IndexByte(letters, byte(x))
		for _, size := range []int{1, 2, 3, 5, 63} {
			for _, at := range []int{0, 1, size / 2, size - 2, size - 1} {
				if at < 0 || at >= size {
					continue
				}
				s := []byte(strings.Repeat("k", size))
				s[at] = byte(x)
				list := [][][]byte{{label(string(s))}, {label(string(s)), label("ab")}, {label("c"), label(string(s)), label("ab")}, {label("c"), label(string(s))}}
				for i, want := range []string{"*", "*.ab", "c.*.ab", "c.*"} {
					b := asking(append(list[i], end(), tail())...)
					if which < 0 {
						refuses(t, b, api.ErrForm)
						continue
					}
					s[at] = small[which]
					reads(t, b, strings.Replace(want, "*", string(s), 1))
				}
			}
		}
	}
}

// P21.2: which bytes may stand in a label, told one by one: just 64 do.
func TestQuestionWhichLetters(t *testing.T) {
	many := 0
	for x := range 256 {
		if _, _, e := Question(asking([]byte{1, byte(x)}, end(), tail())); e == api.OK {
			many++
		}
	}
	if many != 64 {
		t.Errorf("%d bytes may stand in a label", many)
	}
	for _, x := range "@[`{/:.,^~ \x00\x7f" {
		refuses(t, asking([]byte{1, byte(x)}, end(), tail()), api.ErrForm)
	}
	reads(t, asking(label("AZaz09-_"), label("-"), label("_"), end(), tail()), "azaz09-_.-._")
}

// P21.2: no label at all, and many: up to 127 of one byte each.
func TestQuestionMany(t *testing.T) {
	reads(t, asking(end(), tail()), "")
	for many := 1; many < 140; many++ {
		b := asking(bytes.Repeat(label("q"), many), end(), tail())
		if many <= 127 {
			reads(t, b, strings.Repeat(".q", many)[1:])
		} else {
			refuses(t, b, api.ErrForm)
		}
	}
	next := chance()
	for range 3000 {
		var parts [][]byte
		var want []string
		for range next() % 8 {
			s := word(1+next()%30, next)
			parts, want = append(parts, label(s)), append(want, lower(s))
		}
		reads(t, asking(append(parts, end(), tail())...), strings.Join(want, "."))
	}
}

// P21.2: labels about 255 bytes together, with their sizes and the 0; behind too many nothing more is looked at.
func TestQuestionTogether(t *testing.T) {
	for many := 240; many <= 320; many++ {
		for _, most := range []int{1, 2, 3, 9, 30, 61, 62, 63} {
			labels := filled(many-1, most)
			if len(labels) != many-1 {
				t.Fatalf("%d bytes, not %d", len(labels), many-1)
			}
			b := asking(labels, end(), tail())
			if many <= 255 {
				name, kind, e := Question(b)
				if e != api.OK || len(name) != many-2 || kind != 0xc1c2 {
					t.Fatalf("Question of %d bytes together = %q, %d, %d", many, name, kind, e)
				}
				questions(t, b)
				refuses(t, asking(labels), api.ErrShort)
				continue
			}
			for _, behind := range [][]byte{nil, {0}, {0, 1, 2, 3}, {0, 1, 2, 3, 4}, {1}, {63}, {64}, {255}, {1, '!'}, {1, 'a', 0, 0, 1, 0, 1}} {
				refuses(t, asking(labels, behind), api.ErrForm)
			}
		}
	}
}

// P21.2: labels of all sizes are the last of 254, 255 and 256 bytes together.
func TestQuestionLastSizes(t *testing.T) {
	for last := 1; last <= 63; last++ {
		s := strings.Repeat("L", last)
		for many, want := range map[int]api.Errno{253: api.OK, 254: api.OK, 255: api.OK, 256: api.ErrForm, 257: api.ErrForm} {
			before := filled(many-1-len(label(s)), 63)
			b := asking(before, label(s), end(), tail())
			name, _, e := Question(b)
			if e != want || e == api.OK && (len(name) != many-2 || !strings.HasSuffix(name, "."+lower(s))) {
				t.Errorf("Question of %d bytes together, the last label %d = %q, %d", many, last, name, e)
			}
			questions(t, b)
		}
	}
}

// P21.2: too many, and too short or of another letter: that they are too many is seen behind a label alone.
func TestQuestionTooManyAndMore(t *testing.T) {
	// With the 0 they are 255, and whatever else comes is too many.
	full := filled(254, 63)
	reads(t, asking(full, end(), tail()), lower(nameIn(full)))
	refuses(t, asking(full), api.ErrShort)
	refuses(t, asking(full, []byte{64}), api.ErrForm)
	for size := 1; size < 64; size++ {
		for n := range size {
			refuses(t, asking(full, label(strings.Repeat("m", size))[:1+n]), api.ErrShort)
			refuses(t, asking(full, as(label(strings.Repeat("m", size)), 1+n, '!')), api.ErrForm)
			refuses(t, asking(full, as(label(strings.Repeat("m", size)), 1+n, '!')[:1+n]), api.ErrShort)
			refuses(t, asking(full, as(label(strings.Repeat("m", size)), 1+n, '!')[:2+n]), api.ErrForm)
		}
		refuses(t, asking(full, label(strings.Repeat("m", size))), api.ErrForm)
		refuses(t, asking(full, label(strings.Repeat("m", size)), end(), tail()), api.ErrForm)
	}
	// With the 0 they are 256: nothing behind them counts.
	over := filled(255, 63)
	refuses(t, asking(over), api.ErrForm)
	refuses(t, asking(over, end()), api.ErrForm)
	refuses(t, asking(over[:254]), api.ErrShort)
	refuses(t, asking(over[:254], []byte{'!'}), api.ErrForm)
	refuses(t, asking(as(over, 0, 64)), api.ErrForm)
}

// nameIn answers the name that labels have.
func nameIn(labels []byte) string {
	var list []string
	for len(labels) > 0 {
		size := 1 + int(labels[0])
		list, labels = append(list, string(labels[1:size])), labels[size:]
	}
	return strings.Join(list, ".")
}

// P21.2: bytes that end at each place: where a size stands, within a label, behind the last one, with one, two and three of the four bytes.
func TestQuestionEnds(t *testing.T) {
	for _, name := range []string{"", "a", "a.bc", "www.example.com", strings.Repeat("k", 63), named(253, 63, chance()), named(253, 1, chance()), named(252, 17, chance())} {
		whole := asking(labelled(name), tail())
		for n := range len(whole) {
			refuses(t, whole[:n], api.ErrShort)
		}
		reads(t, whole, lower(name))
	}
	refuses(t, asking(end()), api.ErrShort)
	for n := range 4 {
		refuses(t, asking(end(), tail()[:n]), api.ErrShort)
		refuses(t, asking(end(), make([]byte, n)), api.ErrShort)
		refuses(t, asking(label("ab"), end(), bytes.Repeat([]byte{255}, n)), api.ErrShort)
	}
}

// P21.2: of two reasons that of the first byte is told.
func TestQuestionFirst(t *testing.T) {
	for _, c := range []struct {
		rest []byte
		want api.Errno
	}{
		{[]byte{3, 'a', 'b'}, api.ErrShort},
		{[]byte{3, 'a', '!'}, api.ErrForm},
		{[]byte{3, '!', 'b'}, api.ErrForm},
		{[]byte{3, '!'}, api.ErrForm},
		{[]byte{3, 'a'}, api.ErrShort},
		{[]byte{3}, api.ErrShort},
		{[]byte{63, '!'}, api.ErrForm},
		{[]byte{64, '!'}, api.ErrForm},
		{[]byte{64}, api.ErrForm},
		{[]byte{1, 'a', 64}, api.ErrForm},
		{[]byte{1, 'a', 63}, api.ErrShort},
		{[]byte{1, 'a', 0, 64}, api.ErrShort},
		{[]byte{1, 'a', 0, 1, '!', 0}, api.ErrShort},
		{[]byte{1, 'a'}, api.ErrShort},
		{[]byte{1, 0}, api.ErrForm},
		{[]byte{1, 0, 0, 0, 0, 0}, api.ErrForm},
		{[]byte{2, 'a', 0, 0, 1, 0, 1}, api.ErrForm},
		{[]byte{1, '.', 0, 0, 1, 0, 1}, api.ErrForm},
		{[]byte{0xc0, 12, 0, 1, 0, 1}, api.ErrForm},
		{[]byte{1, 'a', 0xc0, 12, 0, 1, 0, 1}, api.ErrForm},
	} {
		refuses(t, asking(c.rest), c.want)
	}
}

// P21.2: the number that follows, through all values; what stands behind it is not looked at.
func TestQuestionKind(t *testing.T) {
	b := asking(label("ab"), end(), tail())
	for kind := range 65536 {
		b[16], b[17] = byte(kind>>8), byte(kind)
		if name, got, e := Question(b); e != api.OK || name != "ab" || got != kind {
			t.Fatalf("Question with %d = %q, %d, %d", kind, name, got, e)
		}
	}
	next := chance()
	for n := range 300 {
		reads(t, asking(label("ab"), end(), tail()[:2], text(2, next), text(n, next)), "ab")
		reads(t, asking(end(), tail(), text(n, next)), "")
	}
	for x := range 256 {
		reads(t, asking(label("ab"), end(), tail()[:2], []byte{byte(x), 0}), "ab")
		reads(t, asking(label("ab"), end(), tail()[:2], []byte{0, byte(x)}), "ab")
		reads(t, asking(label("ab"), end(), tail(), []byte{byte(x)}), "ab")
	}
}

// P21.2: each byte of a question through all values; of the longest ones through those about the edges.
func TestQuestionBytes(t *testing.T) {
	edges := []byte{0, 1, 2, 3, 5, 6, 31, 61, 62, 63, 64, '-', '.', '/', '0', '9', ':', '@', 'A', 'Z', '[', '_', '`', 'a', 'z', '{', 127, 128, 192, 255}
	for _, c := range []struct{ whole, values []byte }{
		{asking(label("www"), label("Example"), label("org"), end(), tail()), run(0, 256)},
		{asking(end(), tail()), run(0, 256)},
		{asking(filled(254, 63), end(), tail()), edges},
		{asking(filled(253, 5), end(), tail(), run(1, 9)), edges},
	} {
		for at := range c.whole {
			for _, x := range c.values {
				questions(t, as(c.whole, at, x))
			}
		}
	}
}

// P21.2: why bytes are no question is a refusal, which errors.As finds, and which tells its words.
func TestWhyNoQuestion(t *testing.T) {
	good := asking(label("ab"), label("c"), end(), tail())
	for _, c := range []struct {
		b    []byte
		want api.Errno
		at   int
		told string
	}{
		{nil, api.ErrShort, 0, "no question at byte 0: the head ends too soon"},
		{good[:11], api.ErrShort, 11, "no question at byte 11: the head ends too soon"},
		{as(good, 5, 2), api.ErrForm, 4, "no question at byte 4: this tells of none, or of several"},
		{good[:12], api.ErrShort, 12, "no question at byte 12: a label's size is missing"},
		{good[:14], api.ErrShort, 14, "no question at byte 14: a label ends too soon"},
		{as(good, 14, '.'), api.ErrForm, 14, "no question at byte 14: this may not stand in a label"},
		{as(good, 15, 64), api.ErrForm, 15, "no question at byte 15: a label is too long"},
		{asking(filled(254, 63), label("x")), api.ErrForm, 268, "no question at byte 268: the labels are too many"},
		{good[:17], api.ErrShort, 17, "no question at byte 17: a label's size is missing"},
		{good[:21], api.ErrShort, 21, "no question at byte 21: what follows the labels ends too soon"},
	} {
		q, err := questionIn(c.b)
		var r refusal
		if !errors.As(err, &r) || r.number != c.want || r.at != c.at || err.Error() != c.told || q != (question{}) {
			t.Errorf("questionIn(% x) = %+v, %v", c.b, q, err)
		}
		// Wrapped it is found, too.
		if number(errors.Join(errors.New("more"), err)) != c.want {
			t.Errorf("%v is not found", err)
		}
	}
	if q, err := questionIn(good); err != nil || number(nil) != api.OK || q != (question{"ab.c", 0xc1c2, 22}) {
		t.Error(q, err)
	}
}
