package clint

import (
	"testing"

	"drawbridge/api"
)

// P9.1: the chapter's example.
func TestExample(t *testing.T) {
	for _, low := range []uint64{0, 5, half32 - 1} {
		c, ok := Store(api.Clint{Cmp: 7*half32 + low}, 0x4004, 4, 1)
		if want := (api.Clint{Cmp: half32 + low}); c != want || !ok {
			t.Errorf("%s, %v, not %s", tell(c), ok, tell(want))
		}
	}
}

// P9.1: Load, told number by number.
func TestLoadExamples(t *testing.T) {
	c := api.Clint{Time: 0x8899aabbccddeeff, Cmp: 0x0123456789abcdef, Soft: true}
	for _, e := range []struct {
		off  uint64
		size int
		want uint64
		ok   bool
	}{
		{0, 4, 1, true},
		{0x4000, 8, 0x0123456789abcdef, true},
		{0x4000, 4, 0x89abcdef, true},
		{0x4004, 4, 0x01234567, true},
		{0xbff8, 8, 0x8899aabbccddeeff, true},
		{0xbff8, 4, 0xccddeeff, true},
		{0xbffc, 4, 0x8899aabb, true},
		{0, 8, 0, false},
		{4, 4, 0, false},
		{4, 8, 0, false},
		{8, 4, 0, false},
		{0x3ffc, 4, 0, false},
		{0x3ff8, 8, 0, false},
		{0x3ffc, 8, 0, false},
		{0x4004, 8, 0, false},
		{0x4008, 4, 0, false},
		{0x4008, 8, 0, false},
		{0xbff4, 4, 0, false},
		{0xbff0, 8, 0, false},
		{0xbff4, 8, 0, false},
		{0xbffc, 8, 0, false},
		{0xc000, 4, 0, false},
		{0xc000, 8, 0, false},
		{0x4001, 4, 0, false},
		{0x4002, 4, 0, false},
		{0x4000, 2, 0, false},
		{0x4000, 1, 0, false},
		{0x4000, 0, 0, false},
		{0x4000, 16, 0, false},
		{0x4000, -8, 0, false},
		{0xbff8, 3, 0, false},
		{0xbff8, 5, 0, false},
		{0xbff8, -4, 0, false},
		{0, 1, 0, false},
		{0, 2, 0, false},
		{0, 0, 0, false},
		{ones, 4, 0, false},
		{ones, 8, 0, false},
		{ones - 3, 4, 0, false},
		{ones - 7, 8, 0, false},
	} {
		if x, ok := Load(c, e.off, e.size); x != e.want || ok != e.ok {
			t.Errorf("Load(%#x, %d) = %#x, %v, not %#x, %v", e.off, e.size, x, ok, e.want, e.ok)
		}
	}
}

// P9.1: Store, told number by number.
func TestStoreExamples(t *testing.T) {
	const x = 0x1011121314151617
	const time, cmp = 0x8899aabbccddeeff, 0x0123456789abcdef
	was := api.Clint{Time: time, Cmp: cmp}
	for _, e := range []struct {
		off  uint64
		size int
		want api.Clint
		ok   bool
	}{
		{0, 4, api.Clint{Time: time, Cmp: cmp, Soft: true}, true},
		{0x4000, 8, api.Clint{Time: time, Cmp: x}, true},
		{0x4000, 4, api.Clint{Time: time, Cmp: 0x0123456714151617}, true},
		{0x4004, 4, api.Clint{Time: time, Cmp: 0x1415161789abcdef}, true},
		{0xbff8, 8, api.Clint{Time: x, Cmp: cmp}, true},
		{0xbff8, 4, api.Clint{Time: 0x8899aabb14151617, Cmp: cmp}, true},
		{0xbffc, 4, api.Clint{Time: 0x14151617ccddeeff, Cmp: cmp}, true},
		{0, 8, was, false},
		{4, 4, was, false},
		{0x4004, 8, was, false},
		{0x4008, 4, was, false},
		{0x3ffc, 8, was, false},
		{0xbffc, 8, was, false},
		{0xbff4, 8, was, false},
		{0xc000, 4, was, false},
		{0x4000, 2, was, false},
		{0xbff8, 1, was, false},
		{0xbff8, 16, was, false},
		{0xbff8, -8, was, false},
		{0, 0, was, false},
		{ones, 8, was, false},
		{ones - 3, 4, was, false},
	} {
		if c, ok := Store(was, e.off, e.size, x); c != e.want || ok != e.ok {
			t.Errorf("Store(%#x, %d) = %s, %v, not %s, %v", e.off, e.size, tell(c), ok, tell(e.want), e.ok)
		}
	}
}

// P9.1: at each place, and at far ones, with each size: which there are, what is loaded, and what is left where something is stored or refused.
func TestPlaces(t *testing.T) {
	places := far()
	for off := range uint64(0x10010) {
		places = append(places, off)
	}
	const x = 0xa0a1a2a3a4a5a6a7
	done := 0
	for _, off := range places {
		for _, size := range sizes {
			for _, c := range timers()[4:6] {
				want, is := loadOf(c, off, size)
				if got, ok := Load(c, off, size); got != want || ok != is {
					t.Fatalf("Load(%s, %#x, %d) = %#x, %v, not %#x, %v", tell(c), off, size, got, ok, want, is)
				}
				left, is := storeOf(c, off, size, x)
				got, ok := Store(c, off, size, x)
				if got != left || ok != is {
					t.Fatalf("Store(%s, %#x, %d) = %s, %v, not %s, %v", tell(c), off, size, tell(got), ok, tell(left), is)
				}
				if ok {
					done++
				}
			}
		}
	}
	if done != 2*7 {
		t.Errorf("%d were stored", done)
	}
}

// P9.1: what is loaded of each row, of numbers with every bit, none, and each one alone.
func TestLoad(t *testing.T) {
	for _, x := range numbers() {
		for _, y := range numbers() {
			for _, soft := range []bool{false, true} {
				c := api.Clint{Time: x, Cmp: y, Soft: soft}
				for _, r := range rows {
					if got, ok := Load(c, r.off, r.size); got != r.load(c) || !ok {
						t.Fatalf("%s of %s: %#x, %v", r.name, tell(c), got, ok)
					}
				}
			}
		}
	}
}

// P9.1: what is left of each timer when numbers with every bit, none, and each one alone are stored: the other half, and all else, as they were.
func TestStore(t *testing.T) {
	for _, r := range rows {
		for _, x := range numbers() {
			all := timers()
			for _, y := range numbers() {
				all = append(all, api.Clint{Time: y, Cmp: ^y}, api.Clint{Time: ^y, Cmp: y, Soft: true})
			}
			for _, c := range all {
				want := c
				r.store(&want, x)
				if got, ok := Store(c, r.off, r.size, x); got != want || !ok {
					t.Fatalf("%s of %s with %#x: %s, %v, not %s", r.name, tell(c), x, tell(got), ok, tell(want))
				}
			}
		}
	}
}

// P9.1: a half leaves the other half, and both halves are the whole, in whichever order they are stored.
func TestHalves(t *testing.T) {
	for _, base := range []uint64{0x4000, 0xbff8} {
		for _, c := range timers() {
			for _, x := range numbers() {
				whole, _ := Store(c, base, 8, x)
				low, _ := Store(c, base, 4, x)
				high, _ := Store(c, base+4, 4, x>>32)
				lowHigh, _ := Store(low, base+4, 4, x>>32)
				highLow, _ := Store(high, base, 4, x)
				if lowHigh != whole || highLow != whole {
					t.Fatalf("%#x of %s with %#x: %s, %s, not %s", base, tell(c), x, tell(lowHigh), tell(highLow), tell(whole))
				}
				was, _ := Load(c, base+4, 4)
				if is, _ := Load(low, base+4, 4); is != was {
					t.Fatalf("%#x of %s with %#x: the upper half is %#x", base, tell(c), x, is)
				}
				was, _ = Load(c, base, 4)
				if is, _ := Load(high, base, 4); is != was {
					t.Fatalf("%#x of %s with %#x: the lower half is %#x", base, tell(c), x, is)
				}
			}
		}
	}
}

// P9.1: Soft is x's lowest bit, whatever the others are, and nothing else changes.
func TestSoft(t *testing.T) {
	for _, c := range timers() {
		for _, x := range numbers() {
			for _, e := range []struct {
				x    uint64
				want bool
			}{{x &^ 1, false}, {x | 1, true}} {
				got, ok := Store(c, 0, 4, e.x)
				if want := (api.Clint{Time: c.Time, Cmp: c.Cmp, Soft: e.want}); got != want || !ok {
					t.Fatalf("Soft of %s with %#x: %s, %v", tell(c), e.x, tell(got), ok)
				}
				if soft, _ := Lines(got); soft != e.want {
					t.Fatalf("the line of Soft with %#x: %v", e.x, soft)
				}
			}
		}
	}
}

// P9.2: Tick, told number by number; all but Time stays.
func TestTick(t *testing.T) {
	for _, e := range []struct{ time, want uint64 }{
		{0, 1}, {1, 2}, {41, 42}, {0xff, 0x100}, {0xffff, 0x10000}, {half32 - 2, half32 - 1}, {half32 - 1, half32}, {half32, half32 + 1},
		{1<<63 - 1, 1 << 63}, {1 << 63, 1<<63 + 1}, {ones - half32, ones - half32 + 1}, {ones - 1, ones}, {ones, 0},
	} {
		for _, cmp := range []uint64{0, e.time, e.want, ones} {
			for _, soft := range []bool{false, true} {
				want := api.Clint{Time: e.want, Cmp: cmp, Soft: soft}
				if got := Tick(api.Clint{Time: e.time, Cmp: cmp, Soft: soft}); got != want {
					t.Errorf("Tick of %#x: %s, not %s", e.time, tell(got), tell(want))
				}
			}
		}
	}
}

// P9.2: many ticks, one behind the other, over the turn.
func TestTicks(t *testing.T) {
	for _, from := range []uint64{0, half32 - 100, ones - 100} {
		c := api.Clint{Time: from, Cmp: 3, Soft: true}
		for n := range uint64(200) {
			if want := (api.Clint{Time: from + n, Cmp: 3, Soft: true}); c != want {
				t.Fatalf("%d ticks behind %#x: %s", n, from, tell(c))
			}
			c = Tick(c)
		}
	}
}

// P9.2: Lines, told number by number: Time just below, at and above Cmp, none of them with a sign.
func TestLinesExamples(t *testing.T) {
	for _, e := range []struct {
		time, cmp uint64
		want      bool
	}{
		{0, 0, true},
		{0, 1, false},
		{1, 0, true},
		{99, 100, false},
		{100, 100, true},
		{101, 100, true},
		{half32 - 1, half32, false},
		{half32, half32 - 1, true},
		{half32, 1, true},
		{1, half32, false},
		{5 * half32, 4*half32 + 9, true},
		{4*half32 + 9, 5 * half32, false},
		{1<<63 - 1, 1 << 63, false},
		{1 << 63, 1 << 63, true},
		{1 << 63, 1<<63 - 1, true},
		{1 << 63, 1, true},
		{1, 1 << 63, false},
		{ones, 0, true},
		{0, ones, false},
		{ones - 1, ones, false},
		{ones, ones, true},
		{ones, ones - 1, true},
	} {
		for _, soft := range []bool{false, true} {
			c := api.Clint{Time: e.time, Cmp: e.cmp, Soft: soft}
			if s, timer := Lines(c); s != soft || timer != e.want {
				t.Errorf("Lines(%s) = %v, %v, not %v, %v", tell(c), s, timer, soft, e.want)
			}
		}
	}
}

// P9.2: Lines of numbers just below, at and above each one.
func TestLines(t *testing.T) {
	for _, cmp := range numbers() {
		for _, c := range []struct {
			time uint64
			want bool
		}{{cmp, true}, {cmp - 1, cmp == 0}, {cmp + 1, cmp != ones}, {0, cmp == 0}, {ones, true}} {
			if _, timer := Lines(api.Clint{Time: c.time, Cmp: cmp}); timer != c.want {
				t.Errorf("Time %#x, Cmp %#x: %v", c.time, cmp, timer)
			}
		}
	}
}

// P9.3: what was stored is loaded, in each row, of each timer; what was refused is not.
func TestStoredIsLoaded(t *testing.T) {
	for _, r := range rows {
		for _, c := range timers() {
			for _, x := range numbers() {
				want := x
				switch {
				case r.off == 0:
					want = x % 2
				case r.size == 4:
					want = x % half32
				}
				after, stored := Store(c, r.off, r.size, x)
				if got, ok := Load(after, r.off, r.size); got != want || !ok || !stored {
					t.Fatalf("%s of %s with %#x: %#x, %v, %v", r.name, tell(c), x, got, ok, stored)
				}
			}
		}
	}
}

// P9.3: of what was stored each row is loaded as chance has stored it, one behind the other.
func TestStoredByChance(t *testing.T) {
	next := chance()
	c := api.Clint{}
	want := c
	for step := range 50000 {
		r, x := rows[next()%uint64(len(rows))], next()
		c, _ = Store(c, r.off, r.size, x)
		r.store(&want, x)
		if next()%3 == 0 {
			c = Tick(c)
			want.Time++
		}
		for _, r := range rows {
			if got, ok := Load(c, r.off, r.size); got != r.load(want) || !ok {
				t.Fatalf("step %d: %s is %#x, not %#x", step, r.name, got, r.load(want))
			}
		}
	}
}

// P9.3: a timer that is past stays past, as ticks go, until Time turns over; one that is not past is so when Time has come.
func TestPastStaysPast(t *testing.T) {
	const far = 300
	for _, e := range []struct {
		time, cmp uint64
		up        uint64 // behind how many ticks it is past
		down      uint64 // behind how many it is not any more
	}{
		{0, 0, 0, far},
		{0, 5, 5, far},
		{7, 5, 0, far},
		{half32 - 3, half32, 3, far},
		{1<<63 - 2, 1 << 63, 2, far},
		{ones - 9, 5, 0, 10},
		{ones - 9, ones, 9, 10},
		{ones - 9, ones - 4, 5, 10},
		{ones - 9, ones - 9, 0, 10},
		{ones, ones, 0, 1},
		{ones, 1, 0, 1},
		{ones, 0, 0, far}, // behind the turn Time is at least 0, too
	} {
		c := api.Clint{Time: e.time, Cmp: e.cmp}
		for n := range min(uint64(far), e.down+1) {
			if _, timer := Lines(c); timer != (n >= e.up && n < e.down) {
				t.Fatalf("%d ticks behind Time %#x, Cmp %#x: %v", n, e.time, e.cmp, timer)
			}
			c = Tick(c)
		}
	}
}

// R1, P9.1, P9.2: of a timer that is all 0, as one begins (P13.1), each call answers what the chapter says.
func TestZeroes(t *testing.T) {
	for _, r := range rows {
		if x, ok := Load(api.Clint{}, r.off, r.size); x != 0 || !ok {
			t.Errorf("%s: %#x, %v", r.name, x, ok)
		}
	}
	if c := Tick(api.Clint{}); c != (api.Clint{Time: 1}) {
		t.Errorf("Tick: %s", tell(c))
	}
	if soft, timer := Lines(api.Clint{}); soft || !timer {
		t.Errorf("Lines: %v, %v", soft, timer)
	}
}

// R1, R3, R4: no call panics, at whatever it is given, none changes what is handed in, and none knows of another: the same call answers the same.
func TestSameAgain(t *testing.T) {
	next := chance()
	for range 100000 {
		c := api.Clint{Time: next(), Cmp: next(), Soft: next()%2 == 0}
		off, size, x := next(), int(next()), next()
		if next()%4 != 0 {
			off, size = rows[next()%uint64(len(rows))].off+next()%16-8, sizes[next()%3]
		}
		was := c
		got, ok := Load(c, off, size)
		left, stored := Store(c, off, size, x)
		tick := Tick(c)
		soft, timer := Lines(c)
		if c != was {
			t.Fatalf("%s was %s", tell(c), tell(was))
		}
		if want, is := loadOf(c, off, size); got != want || ok != is {
			t.Fatalf("Load(%s, %#x, %d) = %#x, %v, not %#x, %v", tell(c), off, size, got, ok, want, is)
		}
		if want, is := storeOf(c, off, size, x); left != want || stored != is {
			t.Fatalf("Store(%s, %#x, %d, %#x) = %s, %v, not %s, %v", tell(c), off, size, x, tell(left), stored, tell(want), is)
		}
		if again, is := Load(c, off, size); again != got || is != ok {
			t.Fatalf("Load(%s, %#x, %d) again", tell(c), off, size)
		}
		if again, is := Store(c, off, size, x); again != left || is != stored {
			t.Fatalf("Store(%s, %#x, %d, %#x) again", tell(c), off, size, x)
		}
		if againSoft, againTimer := Lines(c); againSoft != soft || againTimer != timer || Tick(c) != tick {
			t.Fatalf("Lines or Tick of %s again", tell(c))
		}
	}
}
