package seg

import (
	"math"
	"testing"

	"drawbridge/api"
)

// edges are numbers about both ends, and about the middle.
func edges() []uint32 {
	return []uint32{
		0, 1, 2, 255, 256, 65535, 65536, 1<<30 - 1, 1 << 30, 1<<31 - 2, 1<<31 - 1, 1 << 31, 1<<31 + 1, 1<<31 + 2,
		3 << 30, math.MaxUint32 - 65535, math.MaxUint32 - 2, math.MaxUint32 - 1, math.MaxUint32,
	}
}

// The chapter's example.
func TestLessExample(t *testing.T) {
	if !Less(math.MaxUint32, 0) || Less(0, math.MaxUint32) {
		t.Errorf("Less = %v, %v", Less(math.MaxUint32, 0), Less(0, math.MaxUint32))
	}
}

// P19.3: numbers that are equal, and so far apart, both ways, where they turn over as well.
func TestLess(t *testing.T) {
	for _, a := range edges() {
		for _, c := range []struct {
			apart       uint32
			ahead, back bool
		}{
			{0, false, false},
			{1, true, false},
			{2, true, false},
			{65536, true, false},
			{1 << 30, true, false},
			{1<<31 - 2, true, false},
			{1<<31 - 1, true, false},
			{1 << 31, false, false},
			{1<<31 + 1, false, true},
			{1<<31 + 2, false, true},
			{3 << 30, false, true},
			{math.MaxUint32, false, true},
		} {
			b := a + c.apart
			if Less(a, b) != c.ahead || Less(b, a) != c.back {
				t.Errorf("Less(%d, %d) = %v, and turned round %v", a, b, Less(a, b), Less(b, a))
			}
		}
	}
}

// P19.3: Less, told by the rest of a division.
func TestLessByDivision(t *testing.T) {
	tell := func(a uint32, b uint32) {
		apart := (int64(b) - int64(a) + 1<<32) % (1 << 32)
		if Less(a, b) != (apart >= 1 && apart <= 1<<31-1) {
			t.Fatalf("Less(%d, %d) = %v", a, b, Less(a, b))
		}
	}
	for _, a := range edges() {
		for _, b := range edges() {
			tell(a, b)
		}
	}
	next := chance()
	for range 200000 {
		tell(uint32(next()), uint32(next()))
	}
}

// P19.4: of two unlike numbers, not 2^31 apart, just one is Less; of others none.
func TestOneIsLess(t *testing.T) {
	tell := func(a uint32, b uint32) {
		one := a != b && a != b+1<<31
		if (Less(a, b) != Less(b, a)) != one || Less(a, b) && Less(b, a) {
			t.Fatalf("Less(%d, %d) = %v, and turned round %v", a, b, Less(a, b), Less(b, a))
		}
	}
	next := chance()
	for _, a := range edges() {
		for _, b := range edges() {
			tell(a, b)
		}
		for range 10000 {
			tell(a, uint32(next()))
		}
	}
}

// P19.3: Len of Data, with each set of flags.
func TestLen(t *testing.T) {
	for _, data := range []int{0, 1, 2, 1460, 60000, 60001, 70000} {
		for _, c := range []struct{ flags, more int }{
			{0, 0},
			{api.Syn, 1},
			{api.Fin, 1},
			{api.Syn | api.Fin, 2},
			{api.Rst | api.Psh | api.Ack | api.Urg, 0},
			{api.Syn | api.Ack, 1},
			{api.Fin | api.Psh | api.Ack, 1},
			{63, 2},
		} {
			s := withMss(plain(data), 1460)
			s.Flags = c.flags
			if got := Len(s); got != data+c.more {
				t.Errorf("Len(Flags %d, %d bytes) = %d", c.flags, data, got)
			}
		}
		for flags := range 64 {
			s := plain(data)
			s.Flags = flags
			if got := Len(s); got != data+flags%2+flags/2%2 {
				t.Errorf("Len(Flags %d, %d bytes) = %d", flags, data, got)
			}
		}
	}
	if Len(api.Seg{}) != 0 || Len(api.Seg{Data: []byte{}}) != 0 {
		t.Errorf("Len of nothing: %d", Len(api.Seg{}))
	}
}

// P19.3: nothing else counts in Len, whatever it is.
func TestLenOfOthers(t *testing.T) {
	for _, s := range segments() {
		want := len(s.s.Data)
		if s.s.Flags&2 != 0 {
			want++
		}
		if s.s.Flags&1 != 0 {
			want++
		}
		if Len(s.s) != want {
			t.Errorf("Len(%v) = %d", bare(s.s), Len(s.s))
		}
	}
	for _, n := range numbers()[:4] {
		for _, x := range wrong(n.most) {
			s := plain(5)
			*n.at(&s) = x
			if Len(s) != 6 {
				t.Errorf("Len with %s %d: %d", n.name, x, Len(s))
			}
		}
	}
	// Of Flags that may not be the two bits count as they stand.
	for flags, more := range map[int]int{64: 0, 65: 1, 66: 1, 67: 2, 1 << 32: 0, math.MaxInt: 2, math.MinInt: 0, math.MinInt + 2: 1, -1: 2, -2: 1, -3: 1, -4: 0} {
		if got := Len(api.Seg{Flags: flags, Data: run(0, 3)}); got != 3+more {
			t.Errorf("Len(Flags %d) = %d", flags, got)
		}
	}
}
