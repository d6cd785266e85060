package dns

import (
	"bytes"
	"strings"
	"testing"

	"drawbridge/api"
)

// puts tells of an Ask that is not as the chapter has it.
func puts(t *testing.T, id int, name string, kind int) {
	t.Helper()
	got, e := Ask(id, name, kind)
	if want, number := askOf(id, name, kind); e != number || !bytes.Equal(got, want) {
		t.Fatalf("Ask(%d, %q, %d) = % x, %d, not % x, %d", id, name, kind, got, e, want, number)
	}
}

// answersAsk tells of an Ask that does not answer a number; ErrArg comes without bytes.
func answersAsk(t *testing.T, id int, name string, kind int, want api.Errno) {
	t.Helper()
	got, e := Ask(id, name, kind)
	if e != want || (e == api.OK) == (len(got) == 0) {
		t.Fatalf("Ask(%d, %q, %d) = % x, %d, not %d", id, name, kind, got, e, want)
	}
	puts(t, id, name, kind)
}

// asksFor tells of an Ask of a name that does not write these labels.
func asksFor(t *testing.T, name string, labels []byte) {
	t.Helper()
	want := append(append([]byte{0, 9, 1, 0, 0, 1, 0, 0, 0, 0, 0, 0}, labels...), 0, 28, 0, 1)
	if got, e := Ask(9, name, 28); e != api.OK || !bytes.Equal(got, want) {
		t.Fatalf("Ask(%q) = % x, %d, not % x", name, got, e, want)
	}
	puts(t, 9, name, 28)
}

// The chapter's example: P21.3; and others, told byte by byte.
func TestAskExamples(t *testing.T) {
	for _, c := range []struct {
		id   int
		name string
		kind int
		want []byte
	}{
		{7, "a.bc", 1, []byte{0, 7, 1, 0, 0, 1, 0, 0, 0, 0, 0, 0, 1, 0x61, 2, 0x62, 0x63, 0, 0, 1, 0, 1}},
		{0, "", 0, []byte{0, 0, 1, 0, 0, 1, 0, 0, 0, 0, 0, 0, 0, 0, 0, 0, 1}},
		{65535, ".", 65535, []byte{255, 255, 1, 0, 0, 1, 0, 0, 0, 0, 0, 0, 0, 255, 255, 0, 1}},
		{0x1234, "Go-_.09.", 0x5678, []byte{0x12, 0x34, 1, 0, 0, 1, 0, 0, 0, 0, 0, 0, 4, 'G', 'o', '-', '_', 2, '0', '9', 0, 0x56, 0x78, 0, 1}},
	} {
		if got, e := Ask(c.id, c.name, c.kind); e != api.OK || !bytes.Equal(got, c.want) {
			t.Errorf("Ask(%d, %q, %d) = % x, %d, not % x", c.id, c.name, c.kind, got, e, c.want)
		}
	}
}

// P21.3: id and kind through all values, each alone.
func TestAskNumbers(t *testing.T) {
	for x := range 65536 {
		first, e := Ask(x, "ab", 28)
		second, f := Ask(9, "ab", x)
		if e != api.OK || f != api.OK || numberOf(string(first[:2])) != x || numberOf(string(second[16:18])) != x {
			t.Fatalf("Ask with %d: % x, %d, % x, %d", x, first, e, second, f)
		}
	}
	for _, x := range []int{0, 1, 255, 256, 65534, 65535} {
		for _, y := range []int{0, 1, 255, 256, 65534, 65535} {
			answersAsk(t, x, "ab", y, api.OK)
		}
	}
}

// P21.3: id and kind past their ends, each alone and both, such among them as are right where they are cut to fewer bits.
func TestAskNumbersWrong(t *testing.T) {
	for _, x := range wrong() {
		for _, name := range []string{"", ".", "ab", "!", named(253, 63, chance())} {
			answersAsk(t, x, name, 1, api.ErrArg)
			answersAsk(t, 1, name, x, api.ErrArg)
			answersAsk(t, x, name, x, api.ErrArg)
			answersAsk(t, x, name, -x, api.ErrArg)
		}
	}
	for _, x := range []int{-1, 65536} {
		answersAsk(t, x, "ab", 0, api.ErrArg)
		answersAsk(t, x, "ab", 65535, api.ErrArg)
		answersAsk(t, 0, "ab", x, api.ErrArg)
		answersAsk(t, 65535, "ab", x, api.ErrArg)
	}
}

// P21.3: names with dots: none, one at the end, and such as are too many.
func TestAskDots(t *testing.T) {
	asksFor(t, "", []byte{0})
	asksFor(t, ".", []byte{0})
	asksFor(t, "a", []byte{1, 'a', 0})
	asksFor(t, "a.", []byte{1, 'a', 0})
	asksFor(t, "a.b", []byte{1, 'a', 1, 'b', 0})
	asksFor(t, "a.b.", []byte{1, 'a', 1, 'b', 0})
	asksFor(t, "-._", []byte{1, '-', 1, '_', 0})
	for _, name := range []string{"..", "...", "a..", "a...", ".a", ".a.", "..a", "a..b", "a..b.", "a.b..", "a...b", ".a.b", "a.b..c.d"} {
		answersAsk(t, 9, name, 28, api.ErrArg)
	}
	for n := 2; n < 300; n++ {
		answersAsk(t, 9, strings.Repeat(".", n), 28, api.ErrArg)
	}
	answersAsk(t, 9, strings.Repeat(".", 1<<20), 28, api.ErrArg)
}

// P21.3: labels of each size, first, in the middle, last and alone: from 1 to 63 they may be.
func TestAskSizes(t *testing.T) {
	for size := 1; size < 600; size++ {
		s := strings.Repeat("K", size)
		want := api.ErrArg
		if size <= 63 {
			want = api.OK
		}
		for _, name := range []string{s, s + ".", "a." + s, s + ".a", "a." + s + ".bc", "a." + s + "."} {
			answersAsk(t, 9, name, 28, want)
		}
		if size <= 63 {
			asksFor(t, "a."+s+".bc", append(append([]byte{1, 'a', byte(size)}, s...), 2, 'b', 'c', 0))
		}
	}
	for _, size := range []int{256 + 1, 256 + 63, 512 + 1, 65536 + 1, 1 << 20, 1<<20 + 5} {
		answersAsk(t, 9, strings.Repeat("k", size), 28, api.ErrArg)
		answersAsk(t, 9, "a."+strings.Repeat("k", size), 28, api.ErrArg)
		answersAsk(t, 9, strings.Repeat("k", size)+".", 28, api.ErrArg)
	}
}

// P21.3: names about 255 bytes together, with and without a dot at their end.
func TestAskTogether(t *testing.T) {
	next := chance()
	for many := 240; many <= 330; many++ {
		want := api.OK
		if many > 255 {
			want = api.ErrArg
		}
		for _, most := range []int{1, 2, 3, 9, 30, 61, 62, 63} {
			name := named(many-2, most, next)
			answersAsk(t, 9, name, 28, want)
			answersAsk(t, 9, name+".", 28, want)
			answersAsk(t, 9, name+"..", 28, api.ErrArg)
			if b, _ := Ask(9, name, 28); want == api.OK && len(b) != 12+many+4 {
				t.Errorf("Ask(%q) = %d bytes", name, len(b))
			}
		}
	}
	for many := 120; many < 135; many++ {
		want := api.OK
		if many > 127 {
			want = api.ErrArg
		}
		answersAsk(t, 9, strings.Repeat("q.", many), 28, want)
		answersAsk(t, 9, strings.Repeat("q.", many)[:2*many-1], 28, want)
	}
	for _, many := range []int{511, 512, 513, 65536, 1 << 20} {
		answersAsk(t, 9, strings.Repeat("q.", many), 28, api.ErrArg)
	}
}

// P21.3: each of the 256 bytes within a name, in each place of a label, in the first, a middle and the last label; a dot parts labels.
func TestAskLetters(t *testing.T) {
	for x := range 256 {
		for _, size := range []int{1, 2, 3, 5, 63} {
			for at := range size {
				s := string(as([]byte(strings.Repeat("k", size)), at, byte(x)))
				for _, name := range []string{s, s + ".", s + ".ab", "c." + s + ".ab", "c." + s} {
					puts(t, 9, name, 28)
					if x == '.' {
						continue
					}
					want := api.ErrArg
					if strings.IndexByte(letters, byte(x)) >= 0 {
						want = api.OK
					}
					answersAsk(t, 9, name, 28, want)
				}
			}
		}
	}
	for _, name := range []string{"ä", "a.ü.b", "a b", "a.b c", " ", "a. ", "a\x00", "\x00", "a.b\n", "\n", "a.b!", "ａ", "\xff", "a.\x80"} {
		answersAsk(t, 9, name, 28, api.ErrArg)
	}
}

// P21.3: capital letters stay as they are in what is asked.
func TestAskCapitals(t *testing.T) {
	asksFor(t, "ABCXYZ.abcxyz", append(append([]byte{6}, "ABCXYZ"...), append([]byte{6}, "abcxyz\x00"...)...))
	asksFor(t, letters[:63], append(append([]byte{63}, letters[:63]...), 0))
	for _, x := range letters {
		asksFor(t, string(x), []byte{1, byte(x), 0})
	}
}

// P21.3: several things wrong at once, or one, or none.
func TestAskSeveral(t *testing.T) {
	names := map[string]bool{"": true, ".": true, "a.b": true, "..": false, "a.!": false, strings.Repeat("k", 64): false, strings.Repeat("q.", 128): false}
	for _, id := range []int{-1, 0, 65535, 65536} {
		for _, kind := range []int{-1, 0, 65535, 65536} {
			for name, may := range names {
				want := api.ErrArg
				if may && id >= 0 && id < 65536 && kind >= 0 && kind < 65536 {
					want = api.OK
				}
				answersAsk(t, id, name, kind, want)
			}
		}
	}
}

// P21.4: Question of Ask is the name in small letters, and the kind: names of every length up to the longest.
func TestQuestionOfAsk(t *testing.T) {
	next := chance()
	for _, name := range names() {
		id, kind := next()%65536, next()%65536
		for _, dots := range []string{"", "."} {
			b, e := Ask(id, name+dots, kind)
			if e != api.OK {
				t.Fatalf("Ask(%q) = %d", name+dots, e)
			}
			got, k, e := Question(b)
			if e != api.OK || got != lower(name) || k != kind {
				t.Fatalf("Question of Ask(%q, %d) = %q, %d, %d", name+dots, kind, got, k, e)
			}
			// What was asked is a question, of the number that it was given.
			if n, ok := Id(b); !Query(b) || !ok || n != id {
				t.Fatalf("of Ask(%d, %q): %d, %v", id, name, n, ok)
			}
			puts(t, id, name+dots, kind)
		}
	}
}

// P21.4: what Question answers is asked for again, and is the same.
func TestAskOfQuestion(t *testing.T) {
	for _, name := range names() {
		first, _, e := Question(asking(labelled(name), tail()))
		b, f := Ask(9, first, 28)
		again, kind, g := Question(b)
		if e != api.OK || f != api.OK || g != api.OK || again != first || kind != 28 {
			t.Fatalf("%q, then %q, %d: %d, %d, %d", first, again, kind, e, f, g)
		}
	}
}
