package uart

import (
	"math"
	"strings"
	"testing"

	"drawbridge/api"
)

// P11.1, P11.2: the chapter's example.
func TestExample(t *testing.T) {
	u := Type(api.Uart{}, []byte("hi"))
	for _, want := range []uint64{104, 105, 0} {
		x, left, ok := Load(u, 0, 1)
		if x != want || !ok {
			t.Errorf("%d, %v, not %d", x, ok, want)
		}
		u = left
	}
}

// P11.1: Load, told number by number.
func TestLoadExamples(t *testing.T) {
	for _, e := range []struct {
		in   string
		ie   int
		off  uint64
		size int
		want uint64
		left string
		ok   bool
	}{
		{"", 3, 0, 1, 0, "", true},
		{"A", 0, 0, 1, 0x41, "", true},
		{"\xff\x00", 0, 0, 1, 0xff, "\x00", true},
		{"\x00\xff", 0, 0, 1, 0, "\xff", true},
		{"abcdefghijklmnop", 0, 0, 1, 'a', "bcdefghijklmnop", true},
		{"ab", 0, 1, 1, 0, "ab", true},
		{"ab", 1, 1, 1, 1, "ab", true},
		{"", 2, 1, 1, 2, "", true},
		{"", 3, 1, 1, 3, "", true},
		{"", 0, 5, 1, 0x60, "", true},
		{"", 3, 5, 1, 0x60, "", true},
		{"a", 0, 5, 1, 0x61, "a", true},
		{"\x00", 0, 5, 1, 0x61, "\x00", true},
		{"ab", 3, 5, 1, 0x61, "ab", true},
		{"ab", 3, 2, 1, 0, "ab", true},
		{"ab", 3, 3, 1, 0, "ab", true},
		{"ab", 3, 4, 1, 0, "ab", true},
		{"ab", 3, 6, 1, 0, "ab", true},
		{"ab", 3, 7, 1, 0, "ab", true},
		{"ab", 3, 8, 1, 0, "ab", false},
		{"ab", 3, 0, 0, 0, "ab", false},
		{"ab", 3, 0, 2, 0, "ab", false},
		{"ab", 3, 0, 4, 0, "ab", false},
		{"ab", 3, 0, 8, 0, "ab", false},
		{"ab", 3, 0, -1, 0, "ab", false},
		{"ab", 3, 1, 2, 0, "ab", false},
		{"ab", 3, 1, -8, 0, "ab", false},
		{"ab", 3, 4, 4, 0, "ab", false},
		{"ab", 3, 5, 2, 0, "ab", false},
		{"ab", 3, 5, 0, 0, "ab", false},
		{"ab", 3, ones, 1, 0, "ab", false},
		{"ab", 3, ones - 7, 8, 0, "ab", false},
		{"ab", 3, 1 << 32, 1, 0, "ab", false},
	} {
		was := line{e.in, "out", e.ie, 5}
		want := line{e.left, "out", e.ie, 5}
		x, left, ok := Load(was.uart(), e.off, e.size)
		if x != e.want || lineOf(left) != want || ok != e.ok {
			t.Errorf("Load(%s, %#x, %d) = %#x, %s, %v, not %#x, %s, %v", was, e.off, e.size, x, lineOf(left), ok, e.want, want, e.ok)
		}
	}
}

// P11.1: Store, told number by number.
func TestStoreExamples(t *testing.T) {
	for _, e := range []struct {
		off  uint64
		size int
		x    uint64
		out  string
		ie   int
		ok   bool
	}{
		{0, 1, 0x41, "outA", 2, true},
		{0, 1, 0, "out\x00", 2, true},
		{0, 1, 0xff, "out\xff", 2, true},
		{0, 1, 0x100, "out\x00", 2, true},
		{0, 1, 0x8877665544332241, "outA", 2, true},
		{0, 1, ones, "out\xff", 2, true},
		{1, 1, 0, "out", 0, true},
		{1, 1, 1, "out", 1, true},
		{1, 1, 2, "out", 2, true},
		{1, 1, 3, "out", 3, true},
		{1, 1, 4, "out", 0, true},
		{1, 1, 7, "out", 3, true},
		{1, 1, 0xfd, "out", 1, true},
		{1, 1, 0x8000000000000101, "out", 1, true},
		{1, 1, ones, "out", 3, true},
		{2, 1, ones, "out", 2, true},
		{3, 1, ones, "out", 2, true},
		{4, 1, ones, "out", 2, true},
		{5, 1, ones, "out", 2, true},
		{6, 1, ones, "out", 2, true},
		{7, 1, ones, "out", 2, true},
		{8, 1, 0x41, "out", 2, false},
		{0, 0, 0x41, "out", 2, false},
		{0, 2, 0x41, "out", 2, false},
		{0, 4, 0x41, "out", 2, false},
		{0, 8, 0x41, "out", 2, false},
		{0, -1, 0x41, "out", 2, false},
		{1, 2, 1, "out", 2, false},
		{1, -4, 1, "out", 2, false},
		{1, 8, 1, "out", 2, false},
		{9, 1, 1, "out", 2, false},
		{ones, 1, 1, "out", 2, false},
		{ones - 7, 8, 1, "out", 2, false},
		{1 << 32, 1, 0x41, "out", 2, false},
	} {
		was := line{"in", "out", 2, 5}
		want := line{"in", e.out, e.ie, 5}
		if left, ok := Store(was.uart(), e.off, e.size, e.x); lineOf(left) != want || ok != e.ok {
			t.Errorf("Store(%s, %#x, %d, %#x) = %s, %v, not %s, %v", was, e.off, e.size, e.x, lineOf(left), ok, want, e.ok)
		}
	}
}

// loads fails unless Load answers what the chapter says.
func loads(t *testing.T, l line, off uint64, size int) bool {
	t.Helper()
	want, wantLeft, is := loadOf(l, off, size)
	x, left, ok := Load(l.uart(), off, size)
	if x != want || lineOf(left) != wantLeft || ok != is {
		t.Fatalf("Load(%s, %#x, %d) = %#x, %s, %v, not %#x, %s, %v", l, off, size, x, lineOf(left), ok, want, wantLeft, is)
	}
	return ok
}

// stores fails unless Store answers what the chapter says.
func stores(t *testing.T, l line, off uint64, size int, x uint64) bool {
	t.Helper()
	wantLeft, is := storeOf(l, off, size, x)
	left, ok := Store(l.uart(), off, size, x)
	if lineOf(left) != wantLeft || ok != is {
		t.Fatalf("Store(%s, %#x, %d, %#x) = %s, %v, not %s, %v", l, off, size, x, lineOf(left), ok, wantLeft, is)
	}
	return ok
}

// P11.1: which places and sizes there are: eight with size 1, and none else, near, far, and of any other size; what is refused leaves the line as it was.
func TestPlaces(t *testing.T) {
	all := far()
	for off := range uint64(8) {
		all = append(all, off)
	}
	done := 0
	l := line{"in", "out", 2, 5}
	for _, off := range all {
		for _, size := range append([]int{1}, sizes...) {
			loaded, stored := loads(t, l, off, size), stores(t, l, off, size, ones)
			if loaded != stored {
				t.Fatalf("at %#x, %d: %v, %v", off, size, loaded, stored)
			}
			if loaded {
				done++
			}
		}
	}
	if done != 8 {
		t.Errorf("%d places", done)
	}
}

// P11.1: Load at each place, of each line, done and refused.
func TestLoad(t *testing.T) {
	for _, l := range some() {
		for off := range uint64(8) {
			loads(t, l, off, 1)
			loads(t, l, off, 2)
			loads(t, l, off, 0)
			loads(t, l, off, -1)
			loads(t, l, off+8, 1)
			loads(t, l, ones-off, 1)
		}
	}
}

// P11.1: Store at each place, into each line, done and refused.
func TestStore(t *testing.T) {
	for _, l := range some() {
		for off := range uint64(8) {
			for _, x := range []uint64{0, 1, 2, 3, 4, 0x1c2, ones - 1, ones} {
				stores(t, l, off, 1, x)
				stores(t, l, off, 4, x)
				stores(t, l, off, 0, x)
				stores(t, l, off, -1, x)
				stores(t, l, off+8, 1, x)
				stores(t, l, ones-off, 1, x)
			}
		}
	}
}

// P11.1: Store of numbers with each byte and each bit, at each place.
func TestStoreOfNumbers(t *testing.T) {
	for _, x := range numbers() {
		for ie := range 4 {
			for off := range uint64(8) {
				stores(t, line{"in", "out", ie, 5}, off, 1, x)
			}
		}
	}
}

// P11.1: each byte that waits is loaded as it is, with noughts above it, and the others wait on.
func TestEachByteIn(t *testing.T) {
	for x := range 256 {
		for y := range 256 {
			got, left, ok := Load(api.Uart{In: []byte{byte(x), byte(y)}}, 0, 1)
			if got != uint64(x) || string(left.In) != string([]byte{byte(y)}) || !ok {
				t.Fatalf("Load of %#x, %#x = %#x, %x, %v", x, y, got, left.In, ok)
			}
		}
	}
}

// P11.1: Out takes bytes until it has 4096; what comes later is dropped, and that is done, too.
func TestOutIsFull(t *testing.T) {
	for _, e := range []struct {
		waits int
		want  int
	}{{0, 1}, {1, 2}, {4094, 4095}, {4095, 4096}, {4096, 4096}, {4097, 4097}, {8192, 8192}} {
		was := text(e.waits, 11)
		u, ok := Store(api.Uart{Out: []byte(was)}, 0, 1, 'x')
		if want := (was + "x")[:e.want]; string(u.Out) != want || !ok {
			t.Errorf("behind %d bytes: %s, %v", e.waits, lineOf(u), ok)
		}
		if len(u.In) != 0 || u.Ie != 0 || u.Lost != 0 {
			t.Errorf("behind %d bytes: %s", e.waits, lineOf(u))
		}
	}
}

// P11.1: a place that holds nothing loads 0, forgets what is stored, and takes no byte.
func TestNothingThere(t *testing.T) {
	for _, l := range some() {
		for _, off := range []uint64{2, 3, 4, 6, 7} {
			if x, left, ok := Load(l.uart(), off, 1); x != 0 || lineOf(left) != l || !ok {
				t.Fatalf("Load(%s, %d) = %#x, %s, %v", l, off, x, lineOf(left), ok)
			}
			if left, ok := Store(l.uart(), off, 1, ones); lineOf(left) != l || !ok {
				t.Fatalf("Store(%s, %d) = %s, %v", l, off, lineOf(left), ok)
			}
		}
	}
}

// P11.2: Type, told byte by byte.
func TestTypeExamples(t *testing.T) {
	const bound = 1 << 31
	for _, e := range []struct {
		waits, typed string
		lost         int
		want         string
		left         int
	}{
		{"", "", 0, "", 0},
		{"", "hi", 0, "hi", 0},
		{"hi", "", 0, "hi", 0},
		{"hi", " you", 0, "hi you", 0},
		{"", "0123456789abcdef", 0, "0123456789abcdef", 0},
		{"", "0123456789abcdefg", 0, "0123456789abcdef", 1},
		{"", "0123456789abcdefghij", 3, "0123456789abcdef", 7},
		{"0", "123456789abcdef", 0, "0123456789abcdef", 0},
		{"0", "123456789abcdefg", 0, "0123456789abcdef", 1},
		{"0123456789abcd", "e", 0, "0123456789abcde", 0},
		{"0123456789abcde", "f", 0, "0123456789abcdef", 0},
		{"0123456789abcde", "fg", 0, "0123456789abcdef", 1},
		{"0123456789abcdef", "g", 0, "0123456789abcdef", 1},
		{"0123456789abcdef", "ghi", 10, "0123456789abcdef", 13},
		{"0123456789abcdef", "", 10, "0123456789abcdef", 10},
		{"0123456789abcdefg", "", 10, "0123456789abcdefg", 10},
		{"0123456789abcdefg", "hi", 10, "0123456789abcdefg", 12},
		{"0123456789abcdef", "g", bound - 2, "0123456789abcdef", bound - 1},
		{"0123456789abcdef", "g", bound - 1, "0123456789abcdef", bound},
		{"0123456789abcdef", "g", bound, "0123456789abcdef", bound},
		{"0123456789abcdef", "gh", bound - 2, "0123456789abcdef", bound},
		{"0123456789abcdef", "ghi", bound - 2, "0123456789abcdef", bound},
		{"0123456789abcdef", "ghijkl", bound - 1, "0123456789abcdef", bound},
		{"0123456789abcdef", "ghijkl", bound, "0123456789abcdef", bound},
		{"0123456789abcde", "fg", bound - 1, "0123456789abcdef", bound},
		{"0123456789abcde", "fgh", bound - 1, "0123456789abcdef", bound},
		{"0123456789abcde", "f", bound - 1, "0123456789abcdef", bound - 1},
		{"0123456789abcde", "f", bound, "0123456789abcdef", bound},
		{"", "x", bound, "x", bound},
	} {
		for ie := range 4 {
			was := line{e.waits, "out", ie, e.lost}
			want := line{e.want, "out", ie, e.left}
			if got := lineOf(Type(was.uart(), []byte(e.typed))); got != want {
				t.Errorf("Type(%s, %q) = %s, not %s", was, e.typed, got, want)
			}
		}
	}
}

// P11.2: Type of each number of bytes behind each number that wait, with Lost below its bound, near it, and at it.
func TestType(t *testing.T) {
	for waits := range 34 {
		for typed := range 40 {
			for _, lost := range []int{0, 1, 1<<31 - 30, 1<<31 - 17, 1<<31 - 3, 1<<31 - 2, 1<<31 - 1, 1 << 31} {
				was := line{text(waits, 1), "out", waits % 4, lost}
				b := text(typed, 200)
				want := typeOf(was, b)
				if got := lineOf(Type(was.uart(), []byte(b))); got != want {
					t.Fatalf("Type(%s, %q) = %s, not %s", was, b, got, want)
				}
			}
		}
	}
}

// P11.2: Type into each line, those among them that no call leads to.
func TestTypeIntoEach(t *testing.T) {
	for _, was := range some() {
		for _, n := range []int{0, 1, 2, 14, 15, 16, 17, 50, 5000} {
			b := text(n, 77)
			want := typeOf(was, b)
			if got := lineOf(Type(was.uart(), []byte(b))); got != want {
				t.Fatalf("Type(%s, %d bytes) = %s, not %s", was, n, got, want)
			}
		}
	}
}

// P11.2: many bytes at once: the first 16 wait, and all the others are counted.
func TestTypeOfMany(t *testing.T) {
	b := text(1<<20, 5)
	for _, e := range []struct{ lost, want int }{{0, 1<<20 - 16}, {1<<31 - 1<<20, 1<<31 - 16}, {1<<31 - 1<<20 + 16, 1 << 31}, {1<<31 - 1000, 1 << 31}, {1 << 31, 1 << 31}} {
		if got, want := lineOf(Type(api.Uart{Lost: e.lost}, []byte(b))), (line{b[:16], "", 0, e.want}); got != want {
			t.Errorf("behind %d: %s, not %s", e.lost, got, want)
		}
	}
}

// P11.2: a Lost that is above its bound stays, and one below 0 is counted on.
func TestWrongLost(t *testing.T) {
	for _, e := range []struct{ lost, want int }{
		{1<<31 + 1, 1<<31 + 1}, {math.MaxInt - 1, math.MaxInt - 1}, {math.MaxInt, math.MaxInt},
		{-1, 2}, {-3, 0}, {-4, -1}, {math.MinInt, math.MinInt + 3},
	} {
		full := strings.Repeat("x", 16)
		if got, want := lineOf(Type(line{full, "", 0, e.lost}.uart(), []byte("abc"))), (line{full, "", 0, e.want}); got != want {
			t.Errorf("behind %d: %s, not %s", e.lost, got, want)
		}
	}
}

// P11.2: Line, told case by case: with an Ie that may be, and with one that may not.
func TestLineExamples(t *testing.T) {
	for _, e := range []struct {
		ie  int
		odd bool
	}{
		{0, false}, {1, true}, {2, false}, {3, true},
		{4, false}, {5, true}, {6, false}, {7, true}, {255, true}, {256, false}, {1 << 32, false}, {1<<32 + 1, true}, {math.MaxInt, true},
		{-1, true}, {-2, false}, {-3, true}, {-4, false}, {math.MinInt, false}, {math.MinInt + 1, true},
	} {
		for _, in := range []string{"", "\x00", "a", "ab", text(16, 1), text(17, 1)} {
			want := e.odd && len(in) > 0
			if got := Line(line{in, "out", e.ie, 5}.uart()); got != want {
				t.Errorf("Line of %q with Ie %d: %v", in, e.ie, got)
			}
		}
	}
}

// P11.2: Line hangs on nothing else: not on what went, nor on what was lost.
func TestLine(t *testing.T) {
	for _, l := range some() {
		if got := Line(l.uart()); got != upOf(l) {
			t.Fatalf("Line(%s) = %v", l, got)
		}
		l.out, l.lost = "", 0
		if got := Line(l.uart()); got != upOf(l) {
			t.Fatalf("Line(%s) = %v", l, got)
		}
	}
}

// P11.1, P11.2, R1: of a line that no call made each call answers what the chapter says of one where nothing waits.
func TestNoLine(t *testing.T) {
	for _, u := range []api.Uart{{}, {In: []byte{}, Out: []byte{}}} {
		for off, want := range []uint64{0, 0, 0, 0, 0, 0x60, 0, 0} {
			if x, left, ok := Load(u, uint64(off), 1); x != want || lineOf(left) != (line{}) || !ok {
				t.Errorf("Load at %d = %#x, %s, %v", off, x, lineOf(left), ok)
			}
		}
		if x, left, ok := Load(u, 8, 1); x != 0 || lineOf(left) != (line{}) || ok {
			t.Errorf("Load at 8 = %#x, %s, %v", x, lineOf(left), ok)
		}
		if left, ok := Store(u, 0, 1, 'x'); lineOf(left) != (line{out: "x"}) || !ok {
			t.Errorf("Store = %s, %v", lineOf(left), ok)
		}
		if left, ok := Store(u, 8, 1, 'x'); lineOf(left) != (line{}) || ok {
			t.Errorf("Store at 8 = %s, %v", lineOf(left), ok)
		}
		if left := Type(u, nil); lineOf(left) != (line{}) || Line(left) {
			t.Errorf("Type of nothing = %s", lineOf(left))
		}
		if left := Type(u, []byte{}); lineOf(left) != (line{}) {
			t.Errorf("Type of no bytes = %s", lineOf(left))
		}
		if Line(u) {
			t.Error("Line")
		}
	}
}
