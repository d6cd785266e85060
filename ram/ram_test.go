package ram

import (
	"bytes"
	"math"
	"slices"
	"testing"

	"drawbridge/api"
)

// P7.2: the chapter's example.
func TestExample(t *testing.T) {
	r, e := New(4)
	if e != api.OK {
		t.Fatal(e)
	}
	r, ok := Write(r, base, 2, 0x0102)
	if b, is := Bytes(r, base, 2); !ok || !is || !bytes.Equal(b, []byte{2, 1}) {
		t.Errorf("%x, %v, %v", b, ok, is)
	}
}

// P7.1: memories from the least to the greatest one, of noughts.
func TestNew(t *testing.T) {
	for _, n := range []int{1, 2, 3, 8, 100, 4096, 32768, api.MaxRam - 1, api.MaxRam} {
		if r, e := New(n); e != api.OK || !bytes.Equal(r.Data, make([]byte, n)) {
			t.Errorf("New(%d) has %d bytes, error %d", n, len(r.Data), e)
		}
	}
}

// P7.1: numbers that New refuses, such among them as are right ones where they are cut to fewer bits.
func TestNewWrong(t *testing.T) {
	for _, n := range []int{
		math.MinInt, math.MinInt + 1, -1 << 32, -api.MaxRam, -2, -1, 0, api.MaxRam + 1, api.MaxRam + 2, 1 << 17, 1<<31 - 1, 1 << 31,
		1 << 32, 1<<32 + 1, 1<<32 + 4096, math.MaxInt - 1, math.MaxInt,
	} {
		if r, e := New(n); e != api.ErrArg || len(r.Data) != 0 {
			t.Errorf("New(%d) has %d bytes, error %d", n, len(r.Data), e)
		}
	}
}

// R4: two memories know nothing of one another.
func TestNewApart(t *testing.T) {
	one, _ := New(16)
	other, _ := New(16)
	unshared(t, one.Data, other.Data)
	if again, _ := New(16); !bytes.Equal(again.Data, make([]byte, 16)) {
		t.Errorf("New behind a change of what it answered: %x", again.Data)
	}
}

// P7.1: Inside, told case by case.
func TestInsideExamples(t *testing.T) {
	one, most, none := memory(1), memory(api.MaxRam), api.Ram{}
	const end = base + api.MaxRam
	for _, c := range []struct {
		name string
		r    api.Ram
		at   uint64
		n    int
		want bool
	}{
		{"the first byte", most, base, 1, true},
		{"the last byte", most, end - 1, 1, true},
		{"just behind the last byte", most, end, 1, false},
		{"all bytes", most, base, api.MaxRam, true},
		{"all bytes, and one more", most, base, api.MaxRam + 1, false},
		{"all but the first", most, base + 1, api.MaxRam - 1, true},
		{"as many as all, from the second on", most, base + 1, api.MaxRam, false},
		{"one ahead of the first", most, base - 1, 1, false},
		{"from one ahead of the first into memory", most, base - 1, 2, false},
		{"two at the end", most, end - 2, 2, true},
		{"two over the end", most, end - 1, 2, false},
		{"the only byte", one, base, 1, true},
		{"behind the only byte", one, base + 1, 1, false},
		{"over the only byte", one, base, 2, false},
		{"no bytes at the first one", most, base, 0, true},
		{"no bytes in the midst", most, base + 5, 0, true},
		{"no bytes at the last one", most, end - 1, 0, true},
		{"no bytes just behind the last one", most, end, 0, true},
		{"no bytes two behind the last one", most, end + 1, 0, false},
		{"no bytes ahead of the first one", most, base - 1, 0, false},
		{"no bytes behind the only one", one, base + 1, 0, true},
		{"no bytes two behind the only one", one, base + 2, 0, false},
		{"no bytes at 0", most, 0, 0, false},
		{"no bytes at the upper end", most, ones, 0, false},
		{"a number below 0 at the first byte", most, base, -1, false},
		{"a number below 0 behind the last one", most, end, -1, false},
		{"a number below 0 that leads back into memory", most, end + 8, -8, false},
		{"the least number", most, base, math.MinInt, false},
		{"the greatest number", most, base, math.MaxInt, false},
		{"the greatest number at the last byte", most, end - 1, math.MaxInt, false},
		{"the greatest number at the upper end", most, ones, math.MaxInt, false},
		{"from the upper end on, turned over", most, ones, 2, false},
		{"from near the upper end on, turned over into memory", most, ones - 0xffff, base + 0x10001, false},
		{"from the upper end on, one", most, ones, 1, false},
		{"at 0", most, 0, 1, false},
		{"from 0 into memory", most, 0, base + 1, false},
		{"2^32 above the first byte", most, 1<<32 + base, 1, false},
		{"2^63 above the first byte", most, 1<<63 + base, 1, false},
		{"no memory, no bytes", none, base, 0, true},
		{"no memory, no bytes, one behind", none, base + 1, 0, false},
		{"no memory, no bytes, one ahead", none, base - 1, 0, false},
		{"no memory, no bytes, at 0", none, 0, 0, false},
		{"no memory, one byte", none, base, 1, false},
		{"no memory, a number below 0", none, base, -1, false},
	} {
		if got := Inside(c.r, c.at, c.n); got != c.want {
			t.Errorf("%s: %v", c.name, got)
		}
	}
}

// counts answers numbers of bytes, more than all of r, less than none, and some of all that r has among them.
func counts(r api.Ram) []int {
	ns := []int{math.MinInt, math.MinInt + 1, -65536, -8, -2, -1, 1<<32 + 1, math.MaxInt - 1, math.MaxInt}
	n := len(r.Data)
	for i := range min(n, 20) + 4 {
		ns = append(ns, i)
	}
	if n > 20 {
		ns = append(ns, n-2, n-1, n, n+1, n+2)
	}
	return ns
}

// P7.1: Inside of each place and number of small memories, and at the ends of great ones.
func TestInside(t *testing.T) {
	for _, r := range some() {
		p := placesOf(len(r.Data))
		for _, at := range around(r) {
			for _, n := range counts(r) {
				if _, want := p.of(at, n); Inside(r, at, n) != want {
					t.Fatalf("Inside(%d bytes, %#x, %d) = %v", len(r.Data), at, n, !want)
				}
			}
		}
	}
}

// P7.2: Read, told case by case.
func TestReadExamples(t *testing.T) {
	r := api.Ram{Data: []byte{0x81, 0x82, 0x83, 0x84, 0x85, 0x86, 0x87, 0x88, 0x89, 0x8a}}
	for _, c := range []struct {
		at   uint64
		size int
		want uint64
		ok   bool
	}{
		{base, 1, 0x81, true},
		{base, 2, 0x8281, true},
		{base, 4, 0x84838281, true},
		{base, 8, 0x8887868584838281, true},
		{base + 1, 2, 0x8382, true},
		{base + 3, 4, 0x87868584, true},
		{base + 2, 8, 0x8a89888786858483, true},
		{base + 9, 1, 0x8a, true},
		{base + 8, 2, 0x8a89, true},
		{base + 6, 4, 0x8a898887, true},
		{base + 10, 1, 0, false},
		{base + 9, 2, 0, false},
		{base + 7, 4, 0, false},
		{base + 3, 8, 0, false},
		{base - 1, 1, 0, false},
		{base - 1, 8, 0, false},
		{ones, 1, 0, false},
		{ones, 2, 0, false},
		{base, 0, 0, false},
		{base, 3, 0, false},
		{base, 5, 0, false},
		{base, 9, 0, false},
		{base, 10, 0, false},
		{base, -1, 0, false},
		{base + 10, 0, 0, false},
	} {
		if x, ok := Read(r, c.at, c.size); x != c.want || ok != c.ok {
			t.Errorf("Read(%#x, %d) = %#x, %v, not %#x, %v", c.at, c.size, x, ok, c.want, c.ok)
		}
	}
}

// P7.2: Read of each size, and of those that there are not, at each place of small memories and at the ends of great ones.
func TestRead(t *testing.T) {
	for _, r := range some() {
		p := placesOf(len(r.Data))
		for _, at := range around(r) {
			for _, size := range append(wrongSizes, sizes...) {
				want, is := p.read(r, at, size)
				if x, ok := Read(r, at, size); x != want || ok != is {
					t.Fatalf("Read(%d bytes, %#x, %d) = %#x, %v, not %#x, %v", len(r.Data), at, size, x, ok, want, is)
				}
			}
		}
	}
}

// P7.2: Write, told case by case.
func TestWriteExamples(t *testing.T) {
	const x = 0x1122334455667788
	for _, c := range []struct {
		at   uint64
		size int
		want []byte
		ok   bool
	}{
		{base, 1, []byte{0x88, 2, 3, 4, 5, 6, 7, 8, 9}, true},
		{base, 2, []byte{0x88, 0x77, 3, 4, 5, 6, 7, 8, 9}, true},
		{base, 4, []byte{0x88, 0x77, 0x66, 0x55, 5, 6, 7, 8, 9}, true},
		{base, 8, []byte{0x88, 0x77, 0x66, 0x55, 0x44, 0x33, 0x22, 0x11, 9}, true},
		{base + 1, 8, []byte{1, 0x88, 0x77, 0x66, 0x55, 0x44, 0x33, 0x22, 0x11}, true},
		{base + 3, 4, []byte{1, 2, 3, 0x88, 0x77, 0x66, 0x55, 8, 9}, true},
		{base + 5, 2, []byte{1, 2, 3, 4, 5, 0x88, 0x77, 8, 9}, true},
		{base + 8, 1, []byte{1, 2, 3, 4, 5, 6, 7, 8, 0x88}, true},
		{base + 9, 1, []byte{1, 2, 3, 4, 5, 6, 7, 8, 9}, false},
		{base + 8, 2, []byte{1, 2, 3, 4, 5, 6, 7, 8, 9}, false},
		{base + 6, 4, []byte{1, 2, 3, 4, 5, 6, 7, 8, 9}, false},
		{base + 2, 8, []byte{1, 2, 3, 4, 5, 6, 7, 8, 9}, false},
		{base - 1, 1, []byte{1, 2, 3, 4, 5, 6, 7, 8, 9}, false},
		{base - 1, 2, []byte{1, 2, 3, 4, 5, 6, 7, 8, 9}, false},
		{ones, 4, []byte{1, 2, 3, 4, 5, 6, 7, 8, 9}, false},
		{base, 0, []byte{1, 2, 3, 4, 5, 6, 7, 8, 9}, false},
		{base, 3, []byte{1, 2, 3, 4, 5, 6, 7, 8, 9}, false},
		{base, 9, []byte{1, 2, 3, 4, 5, 6, 7, 8, 9}, false},
		{base, -2, []byte{1, 2, 3, 4, 5, 6, 7, 8, 9}, false},
	} {
		if r, ok := Write(memory(9), c.at, c.size, x); !bytes.Equal(r.Data, c.want) || ok != c.ok {
			t.Errorf("Write(%#x, %d) = %x, %v, not %x, %v", c.at, c.size, r.Data, ok, c.want, c.ok)
		}
	}
}

// P7.2: Write of each size, and of those that there are not, at each place of small memories and at the ends of great ones.
func TestWrite(t *testing.T) {
	for _, r := range some() {
		p := placesOf(len(r.Data))
		for _, at := range around(r) {
			for _, size := range append(wrongSizes, sizes...) {
				x := values[2]
				want, is := p.write(r, at, size, x)
				if s, ok := Write(r, at, size, x); !same(s, want) || ok != is {
					t.Fatalf("Write(%d bytes, %#x, %d): %v, or other bytes", len(r.Data), at, size, ok)
				}
			}
		}
	}
}

// P7.2: Bytes of each place and number of small memories, and at the ends of great ones.
func TestBytes(t *testing.T) {
	for _, r := range some() {
		p := placesOf(len(r.Data))
		for _, at := range around(r) {
			for _, n := range counts(r) {
				want, is := p.bytes(r, at, n)
				if b, ok := Bytes(r, at, n); !bytes.Equal(b, want) || ok != is {
					t.Fatalf("Bytes(%d bytes, %#x, %d) = %x, %v", len(r.Data), at, n, b, ok)
				}
			}
		}
	}
}

// P7.2: Bytes, told case by case.
func TestBytesExamples(t *testing.T) {
	for _, c := range []struct {
		at   uint64
		n    int
		want []byte
		ok   bool
	}{
		{base, 5, []byte{1, 2, 3, 4, 5}, true},
		{base, 3, []byte{1, 2, 3}, true},
		{base + 1, 3, []byte{2, 3, 4}, true},
		{base + 4, 1, []byte{5}, true},
		{base, 0, nil, true},
		{base + 5, 0, nil, true},
		{base + 6, 0, nil, false},
		{base - 1, 0, nil, false},
		{base, 6, nil, false},
		{base + 4, 2, nil, false},
		{base + 5, 1, nil, false},
		{base - 1, 3, nil, false},
		{base, -1, nil, false},
		{base + 2, -1, nil, false},
		{base, math.MinInt, nil, false},
		{base, math.MaxInt, nil, false},
		{ones, 2, nil, false},
		{0, 1, nil, false},
	} {
		if b, ok := Bytes(memory(5), c.at, c.n); !bytes.Equal(b, c.want) || ok != c.ok {
			t.Errorf("Bytes(%#x, %d) = %x, %v, not %x, %v", c.at, c.n, b, ok, c.want, c.ok)
		}
	}
}

// P7.2: Fill of each place, with each number of bytes, of small memories, and at the ends of great ones.
func TestFill(t *testing.T) {
	for _, r := range some() {
		p := placesOf(len(r.Data))
		for _, at := range around(r) {
			for _, n := range counts(r) {
				if n < 0 || n > api.MaxRam+1 {
					continue
				}
				b := list(n)
				want, is := p.fill(r, at, b)
				if s, ok := Fill(r, at, b); !same(s, want) || ok != is {
					t.Fatalf("Fill(%d bytes, %#x, %d): %v, or other bytes", len(r.Data), at, n, ok)
				}
			}
		}
	}
}

// P7.2: Fill, told case by case.
func TestFillExamples(t *testing.T) {
	for _, c := range []struct {
		at   uint64
		b    []byte
		want []byte
		ok   bool
	}{
		{base, []byte{9, 8}, []byte{9, 8, 3, 4, 5}, true},
		{base + 2, []byte{9, 8}, []byte{1, 2, 9, 8, 5}, true},
		{base + 3, []byte{9, 8}, []byte{1, 2, 3, 9, 8}, true},
		{base + 4, []byte{9}, []byte{1, 2, 3, 4, 9}, true},
		{base, []byte{9, 8, 7, 6, 0}, []byte{9, 8, 7, 6, 0}, true},
		{base, nil, []byte{1, 2, 3, 4, 5}, true},
		{base + 5, []byte{}, []byte{1, 2, 3, 4, 5}, true},
		{base + 6, nil, []byte{1, 2, 3, 4, 5}, false},
		{base - 1, []byte{}, []byte{1, 2, 3, 4, 5}, false},
		{base + 4, []byte{9, 8}, []byte{1, 2, 3, 4, 5}, false},
		{base + 5, []byte{9}, []byte{1, 2, 3, 4, 5}, false},
		{base, []byte{9, 8, 7, 6, 5, 4}, []byte{1, 2, 3, 4, 5}, false},
		{base - 1, []byte{9, 8}, []byte{1, 2, 3, 4, 5}, false},
		{ones, []byte{9, 8}, []byte{1, 2, 3, 4, 5}, false},
		{0, []byte{9}, []byte{1, 2, 3, 4, 5}, false},
	} {
		if r, ok := Fill(memory(5), c.at, c.b); !bytes.Equal(r.Data, c.want) || ok != c.ok {
			t.Errorf("Fill(%#x, %x) = %x, %v, not %x, %v", c.at, c.b, r.Data, ok, c.want, c.ok)
		}
	}
}

// cut answers the first n bytes of a longer memory, behind which there is room.
func cut(n int) api.Ram { return api.Ram{Data: memory(n + 16).Data[:n]} }

// P7.2, R3: no call changes what is handed in, nor the room behind its end, whether it is done or refused.
func TestHandedInStays(t *testing.T) {
	for n := range 12 {
		r, b := cut(n), list(16)
		was, wasB := slices.Clone(r.Data[:n+16]), slices.Clone(b)
		for _, at := range around(r) {
			Inside(r, at, 3)
			for size := -1; size < 11; size++ {
				Read(r, at, size)
				Write(r, at, size, values[2])
				Bytes(r, at, size)
			}
			for i := range b {
				Fill(r, at, b[:i])
			}
		}
		if !bytes.Equal(r.Data[:n+16], was) || !bytes.Equal(b, wasB) {
			t.Errorf("of %d bytes: %x, %x", n, r.Data[:n+16], b)
		}
	}
}

// P7.2, R3: what is answered shares nothing with what was handed in, whether it is done or refused.
func TestAnswersUnshared(t *testing.T) {
	for _, at := range append(far, base, base+1, base+4, base+11, base+12, base+13) {
		for size := range 14 {
			r, b := cut(12), list(size)
			s, _ := Write(r, at, size, values[2])
			unshared(t, s.Data, r.Data)
			s, _ = Fill(r, at, b)
			unshared(t, s.Data, r.Data)
			unshared(t, s.Data, b)
			taken, _ := Bytes(r, at, size)
			unshared(t, taken, r.Data)
		}
	}
}

// P7.2, R3: bytes that are a part of memory itself, ahead of where they go, behind it and over it, are taken as they were.
func TestFillOfItsOwnBytes(t *testing.T) {
	for from := range 10 {
		for to := from; to <= 10; to++ {
			for i := range 10 {
				r := memory(10)
				want, is := placesOf(10).fill(r, base+uint64(i), slices.Clone(r.Data[from:to]))
				s, ok := Fill(r, base+uint64(i), r.Data[from:to])
				if !same(s, want) || ok != is || !same(r, memory(10)) {
					t.Fatalf("bytes %d to %d at %d: %x, %v, and %x", from, to, i, s.Data, ok, r.Data)
				}
			}
		}
	}
}

// R7: of memory its length alone counts: what room it has behind its end is nobody's.
func TestRoomBehindTheEnd(t *testing.T) {
	r := cut(8)
	if Inside(r, base+8, 1) || Inside(r, base, 9) || Inside(r, base+9, 0) {
		t.Error("room is taken for memory")
	}
	if x, ok := Read(r, base+7, 2); ok || x != 0 {
		t.Errorf("Read = %#x, %v", x, ok)
	}
	if b, ok := Bytes(r, base+4, 8); ok || len(b) != 0 {
		t.Errorf("Bytes = %x, %v", b, ok)
	}
	if s, ok := Write(r, base+1, 8, 0); ok || !same(s, memory(8)) {
		t.Errorf("Write = %x, %v", s.Data, ok)
	}
	if s, ok := Fill(r, base+8, []byte{1}); ok || !same(s, memory(8)) {
		t.Errorf("Fill = %x, %v", s.Data, ok)
	}
}

// P7.3: what was written is read, each number in each size at each place, and nothing else is another.
func TestReadOfWrite(t *testing.T) {
	for _, r := range small() {
		for i := range r.Data {
			for _, size := range sizes {
				for _, x := range values {
					readOfWrite(t, r, i, size, x)
				}
			}
		}
	}
}

// readOfWrite writes and reads at the place i.
func readOfWrite(t *testing.T, r api.Ram, i int, size int, x uint64) {
	t.Helper()
	at := base + uint64(i)
	s, ok := Write(r, at, size, x)
	if ok != (i+size <= len(r.Data)) {
		t.Fatalf("Write(%d bytes, %#x, %d): %v", len(r.Data), at, size, ok)
	}
	low := x << (64 - 8*size) >> (64 - 8*size)
	if got, is := Read(s, at, size); is != ok || ok && got != low {
		t.Fatalf("Read of Write(%d bytes, %#x, %d, %#x) = %#x, %v", len(r.Data), at, size, x, got, is)
	}
	for j := range r.Data {
		if written := ok && j >= i && j < i+size; !written && s.Data[j] != r.Data[j] {
			t.Fatalf("Write(%d bytes, %#x, %d): byte %d is %#x", len(r.Data), at, size, j, s.Data[j])
		}
	}
}

// P7.3: what was filled is taken out again, and nothing else is another.
func TestBytesOfFill(t *testing.T) {
	r := memory(20)
	for i := range 21 {
		for n := range 21 - i {
			at, b := base+uint64(i), list(n)
			s, ok := Fill(r, at, b)
			if !ok {
				t.Fatalf("Fill(%#x, %d)", at, n)
			}
			got, _ := Bytes(s, at, n)
			ahead, _ := Bytes(s, base, i)
			behind, _ := Bytes(s, at+uint64(n), 20-i-n)
			if !bytes.Equal(got, b) || !bytes.Equal(ahead, r.Data[:i]) || !bytes.Equal(behind, r.Data[i+n:]) {
				t.Fatalf("Fill(%#x, %d) = %x", at, n, s.Data)
			}
		}
	}
}

// P7.3: many calls, one after the other, as chance would have them: memory is each time what the chapter makes of it.
func TestManyCalls(t *testing.T) {
	next := chance()
	for _, n := range []int{1, 2, 7, 8, 9, 37, 4096, api.MaxRam} {
		p := placesOf(n)
		r, _ := New(n)
		want := api.Ram{Data: make([]byte, n)}
		for range 3000 {
			at := base - 4 + next()%uint64(n+8)
			var ok, is bool
			if next()%2 == 0 {
				size, x := sizes[next()%4], next()
				r, ok = Write(r, at, size, x)
				want, is = p.write(want, at, size, x)
			} else {
				b := list(int(next() % uint64(min(n, 200)+2)))
				r, ok = Fill(r, at, b)
				want, is = p.fill(want, at, b)
			}
			if ok != is || !same(r, want) {
				t.Fatalf("of %d bytes, at %#x: %v, not %v, or other bytes", n, at, ok, is)
			}
		}
	}
}

// P7.2, P7.3: at both ends of the greatest memory each size is written and read.
func TestEndsOfTheGreatest(t *testing.T) {
	r, _ := New(api.MaxRam)
	for _, size := range sizes {
		last := base + api.MaxRam - uint64(size)
		for _, at := range []uint64{base, last} {
			s, ok := Write(r, at, size, ones)
			if x, is := Read(s, at, size); !ok || !is || x != ones>>(64-8*size) || bytes.Count(s.Data, []byte{0xff}) != size {
				t.Errorf("size %d at %#x: %#x, %v, %v", size, at, x, ok, is)
			}
		}
		if _, ok := Write(r, last+1, size, ones); ok {
			t.Errorf("size %d at %#x", size, last+1)
		}
	}
}

// P7.1, R1: of memory that no call made each call answers what the chapter says of memory that has no bytes.
func TestNoMemory(t *testing.T) {
	for _, r := range []api.Ram{{}, {Data: []byte{}}} {
		if x, ok := Read(r, base, 1); x != 0 || ok {
			t.Errorf("Read = %#x, %v", x, ok)
		}
		if s, ok := Write(r, base, 1, 5); len(s.Data) != 0 || ok {
			t.Errorf("Write = %x, %v", s.Data, ok)
		}
		if b, ok := Bytes(r, base, 0); len(b) != 0 || !ok {
			t.Errorf("Bytes = %x, %v", b, ok)
		}
		if b, ok := Bytes(r, base, 1); len(b) != 0 || ok {
			t.Errorf("Bytes = %x, %v", b, ok)
		}
		if s, ok := Fill(r, base, nil); len(s.Data) != 0 || !ok {
			t.Errorf("Fill = %x, %v", s.Data, ok)
		}
		if s, ok := Fill(r, base, []byte{1}); len(s.Data) != 0 || ok {
			t.Errorf("Fill = %x, %v", s.Data, ok)
		}
		if !Inside(r, base, 0) || Inside(r, base, 1) || Inside(r, 0, 0) {
			t.Error("Inside")
		}
	}
}

// R1, R8: no call panics, at whatever it is given, and each answers the same again.
func TestAnyArguments(t *testing.T) {
	next := chance()
	for range 5000 {
		r := memory(int(next() % 40))
		at, n, x := next()>>(next()%64), int(next()>>(next()%64)), next()
		if next()%2 == 0 {
			at += base
		}
		read, ok := Read(r, at, n)
		if again, is := Read(r, at, n); again != read || is != ok {
			t.Fatalf("Read(%#x, %d)", at, n)
		}
		s, ok := Write(r, at, n, x)
		if again, is := Write(r, at, n, x); !same(s, again) || is != ok {
			t.Fatalf("Write(%#x, %d)", at, n)
		}
		b, ok := Bytes(r, at, n)
		if again, is := Bytes(r, at, n); !bytes.Equal(b, again) || is != ok || ok != Inside(r, at, n) {
			t.Fatalf("Bytes(%#x, %d)", at, n)
		}
		given := list(int(x % 40))
		s, ok = Fill(r, at, given)
		if again, is := Fill(r, at, given); !same(s, again) || is != ok || ok != Inside(r, at, len(given)) {
			t.Fatalf("Fill(%#x, %d)", at, len(given))
		}
	}
}
