package dns

import (
	"bytes"
	"math"
	"slices"
	"testing"

	"drawbridge/api"
)

// failing tells of a Fail that is not as the chapter has it.
func failing(t *testing.T, b []byte, code int) {
	t.Helper()
	got, ok := Fail(b, code)
	if want, is := failOf(b, code); ok != is || !bytes.Equal(got, want) {
		t.Fatalf("Fail(% x, %d) = % x, %v, not % x, %v", b, code, got, ok, want, is)
	}
}

// failsNot tells of a Fail that answers something.
func failsNot(t *testing.T, b []byte) {
	t.Helper()
	for _, code := range []int{-1, 0, 2, 3, 15, 16} {
		if got, ok := Fail(b, code); ok || len(got) != 0 {
			t.Fatalf("Fail(% x, %d) = % x, %v", b, code, got, ok)
		}
		failing(t, b, code)
	}
}

// P21.3: Fail, told byte by byte: the question's letters stay as they are.
func TestFailExamples(t *testing.T) {
	for _, c := range []struct {
		b    []byte
		code int
		want []byte
	}{
		{
			[]byte{0, 7, 1, 0, 0, 1, 0, 0, 0, 0, 0, 0, 1, 'a', 2, 'b', 'c', 0, 0, 1, 0, 1}, 2,
			[]byte{0, 7, 129, 130, 0, 1, 0, 0, 0, 0, 0, 0, 1, 'a', 2, 'b', 'c', 0, 0, 1, 0, 1},
		},
		{
			[]byte{0xa1, 0xa2, 0x7f, 0xff, 0, 1, 9, 8, 7, 6, 5, 4, 3, 'W', 'w', 'W', 0, 0xc1, 0xc2, 0xc3, 0xc4, 0xd1, 0xd2}, 3,
			[]byte{0xa1, 0xa2, 129, 131, 0, 1, 0, 0, 0, 0, 0, 0, 3, 'W', 'w', 'W', 0, 0xc1, 0xc2, 0xc3, 0xc4},
		},
		{
			[]byte{255, 254, 0, 0, 0, 1, 0, 0, 0, 0, 0, 0, 0, 1, 2, 3, 4}, 15,
			[]byte{255, 254, 129, 143, 0, 1, 0, 0, 0, 0, 0, 0, 0, 1, 2, 3, 4},
		},
	} {
		if got, ok := Fail(c.b, c.code); !ok || !bytes.Equal(got, c.want) {
			t.Errorf("Fail(% x, %d) = % x, %v, not % x", c.b, c.code, got, ok, c.want)
		}
	}
}

// P21.3: codes through many values, below 0, past 15, the least and the greatest: modulo 16.
func TestFailCodes(t *testing.T) {
	b := asking(label("aB"), end(), tail())
	want := slices.Concat([]byte{0xa1, 0xa2, 129, 0, 0, 1, 0, 0, 0, 0, 0, 0}, label("aB"), end(), tail())
	codes := []int{math.MinInt, math.MinInt + 5, math.MaxInt, math.MaxInt - 3, 1 << 31, 1<<32 + 2, -1 << 40, 1<<62 + 9}
	for code := -1000; code <= 1000; code++ {
		codes = append(codes, code)
	}
	for _, code := range codes {
		want[3] = byte(128 + remainder(code, 16))
		if got, ok := Fail(b, code); !ok || !bytes.Equal(got, want) {
			t.Errorf("Fail with %d = % x, %v, not % x", code, got, ok, want)
		}
		failing(t, b, code)
	}
	for _, c := range []struct{ code, want int }{{-17, 143}, {-16, 128}, {-1, 143}, {0, 128}, {5, 133}, {15, 143}, {16, 128}, {17, 129}, {255, 143}, {256, 128}, {math.MaxInt, 143}, {math.MinInt, 128}} {
		if got, ok := Fail(b, c.code); !ok || int(got[3]) != c.want {
			t.Errorf("Fail with %d = % x, %v", c.code, got, ok)
		}
	}
}

// P21.3: each byte of a question's head through all values: of an answer, and of another number of questions, there is none.
func TestFailHead(t *testing.T) {
	b := asking(label("aB"), end(), tail())
	for at := range 12 {
		for x := range 256 {
			c := as(b, at, byte(x))
			if at == 2 && x > 127 || at == 4 && x != 0 || at == 5 && x != 1 {
				failsNot(t, c)
				continue
			}
			want := slices.Concat(c[:2], []byte{129, 130, 0, 1, 0, 0, 0, 0, 0, 0}, b[12:])
			if got, ok := Fail(c, 2); !ok || !bytes.Equal(got, want) {
				t.Fatalf("Fail(% x) = % x, %v, not % x", c, got, ok, want)
			}
			failing(t, c, x)
		}
	}
}

// P21.3: Fail of bytes that are no question: too few, and wrong ones.
func TestFailNoQuestion(t *testing.T) {
	failsNot(t, nil)
	for n := range 40 {
		failsNot(t, make([]byte, n))
		failsNot(t, bytes.Repeat([]byte{255}, n))
	}
	whole := asking(label("www"), label("example"), end(), tail())
	for n := range len(whole) {
		failsNot(t, whole[:n])
	}
	for _, rest := range [][]byte{{64}, {1, '!', 0, 0, 1, 0, 1}, {1, 'a', 0xc0, 12, 0, 1, 0, 1}, slices.Concat(filled(255, 63), end(), tail())} {
		failsNot(t, asking(rest))
	}
	// An answer whose question can be read is none, nor is what Fail answers.
	answer, _ := Fail(whole, 3)
	failsNot(t, answer)
	failsNot(t, as(whole, 2, 0x80))
}

// P21.3: bytes behind the question are not in it.
func TestFailBehind(t *testing.T) {
	next := chance()
	for n := range 100 {
		for _, name := range []string{"", "a", "Www.Example.org", named(253, 63, next), named(253, 2, next)} {
			b := asking(labelled(name), tail())
			want := slices.Concat([]byte{0xa1, 0xa2, 129, 133, 0, 1, 0, 0, 0, 0, 0, 0}, labelled(name), tail())
			for _, behind := range [][]byte{text(n, next), make([]byte, n), bytes.Repeat([]byte{255}, n)} {
				if got, ok := Fail(append(b, behind...), 5); !ok || !bytes.Equal(got, want) {
					t.Fatalf("Fail of %q with %d more = % x, %v", name, n, got, ok)
				}
			}
		}
	}
}

// P21.3, P21.4: Fail of what was asked: the same question, which no longer asks.
func TestFailOfAsk(t *testing.T) {
	next := chance()
	for _, name := range names() {
		id, kind, code := next()%65536, next()%65536, next()%16
		b, _ := Ask(id, name, kind)
		got, ok := Fail(b, code)
		if !ok || len(got) != len(b) || Query(got) || int(got[3]) != 128+code {
			t.Fatalf("Fail of Ask(%q) = % x, %v", name, got, ok)
		}
		again, k, e := Question(got)
		if n, _ := Id(got); e != api.OK || again != lower(name) || k != kind || n != id {
			t.Fatalf("Question of Fail of Ask(%q) = %q, %d, %d", name, again, k, e)
		}
		failing(t, b, code)
	}
}
