package sv39

import (
	"bytes"
	"slices"
	"testing"

	"drawbridge/api"
)

// P8.2: the chapter's example.
func TestExample(t *testing.T) {
	at, s, cause, ok := Translate(api.Ram{Data: noise(16)}, 0, 0, api.Supervisor, 0x1234567, api.Fetch)
	if at != 0x1234567 || !bytes.Equal(s.Data, noise(16)) || cause != 0 || !ok {
		t.Errorf("%#x, %x, %d, %v", at, s.Data, cause, ok)
	}
}

// P8.1: each kind, and kinds that there are not, of a page and of an access.
func TestFault(t *testing.T) {
	for _, c := range []struct{ kind, page, access int }{
		{api.Fetch, 12, 1}, {api.Reading, 13, 5}, {api.Writing, 15, 7}, {3, 13, 5}, {4, 13, 5}, {-1, 13, 5}, {-2, 13, 5}, {256, 13, 5},
		{258, 13, 5}, {1 << 32, 13, 5}, {1<<32 + 2, 13, 5}, {-1 << 63, 13, 5}, {-1<<63 + 2, 13, 5}, {1<<63 - 1, 13, 5},
	} {
		if page, access := Fault(c.kind, true), Fault(c.kind, false); page != c.page || access != c.access {
			t.Errorf("Fault(%d) = %d of the page, %d of the access", c.kind, page, access)
		}
	}
}

// P8.2 to P8.4: what is answered, told number by number, of tables at 0x80002000, 0x80001000 and 0x80003000.
func TestTranslateExamples(t *testing.T) {
	const user, all = bitV | bitU, bitV | bitR | bitW | bitX
	for _, c := range []struct {
		name  string
		level int
		e     uint64
		priv  int
		kind  int
		at    uint64
		cause int
		e2    uint64
	}{
		{"a User reads", 2, 0x12345<<10 | user | bitR, 0, 1, 0x12345abc, 0, 0x12345<<10 | user | bitR | bitA},
		{"a User writes", 2, 0x12345<<10 | user | bitR | bitW, 0, 2, 0x12345abc, 0, 0x12345<<10 | user | bitR | bitW | bitA | bitD},
		{"a User fetches", 2, 0x12345<<10 | user | bitX, 0, 0, 0x12345abc, 0, 0x12345<<10 | user | bitX | bitA},
		{"the Supervisor reads", 2, 0x12345<<10 | all, 1, 1, 0x12345abc, 0, 0x12345<<10 | all | bitA},
		{"the Supervisor reads a User's", 2, 0x12345<<10 | all | bitU, 1, 1, 0, 13, 0},
		{"the Supervisor writes a User's", 2, 0x12345<<10 | all | bitU, 1, 2, 0, 15, 0},
		{"the Supervisor fetches a User's", 2, 0x12345<<10 | all | bitU, 1, 0, 0, 12, 0},
		{"a User reads the Supervisor's", 2, 0x12345<<10 | all, 0, 1, 0, 13, 0},
		{"a User writes the Supervisor's", 2, 0x12345<<10 | all, 0, 2, 0, 15, 0},
		{"a User fetches the Supervisor's", 2, 0x12345<<10 | all, 0, 0, 0, 12, 0},
		{"written, just to be read", 2, 0x12345<<10 | bitV | bitR, 1, 2, 0, 15, 0},
		{"fetched, not to be run", 2, 0x12345<<10 | bitV | bitR | bitW, 1, 0, 0, 12, 0},
		{"read, just to be run", 2, 0x12345<<10 | bitV | bitX, 1, 1, 0, 13, 0},
		{"written, not to be read", 2, 0x12345<<10 | bitV | bitW | bitX, 1, 2, 0, 15, 0},
		{"no entry", 2, 0x12345<<10 | all&^bitV, 1, 1, 0, 13, 0},
		{"a table on the last level", 2, (base/4096)<<10 | bitV, 1, 1, 0, 13, 0},
		{"a table on the last level that is no memory", 2, 0x12345<<10 | bitV, 1, 1, 0, 13, 0},
		{"a leaf on the second level", 1, 0x2e00<<10 | all, 1, 1, 0x2fe7abc, 0, 0x2e00<<10 | all | bitA},
		{"a leaf on the second level amid its page", 1, 0x2e01<<10 | all, 1, 1, 0, 13, 0},
		{"a leaf on the first level", 0, 0x1c0000<<10 | all, 1, 2, 0x1c0000000 | 0x279e7abc, 0, 0x1c0000<<10 | all | bitA | bitD},
		{"a leaf on the first level amid its page", 0, 0x1c0200<<10 | all, 1, 1, 0, 13, 0},
		{"a table that is no memory, behind the first level", 0, 0x12345<<10 | bitV, 0, 0, 0, 1, 0},
		{"a table that is no memory, behind the second level", 1, 0x12345<<10 | bitV, 0, 2, 0, 7, 0},
		{"a table that is no memory, to be read", 1, 0x12345<<10 | bitV, 1, 1, 0, 5, 0},
	} {
		q := bookOf(c.level, c.e, c.priv, c.kind, 0)
		want := answer{c.at, q.mem, c.cause, c.cause == 0}
		if want.ok {
			want.mem = book(c.level, c.e2)
		}
		if got := q.ask(); !got.like(want) {
			t.Errorf("%s: %s, not %s", c.name, got.tell(q.mem), want.tell(q.mem))
		}
	}
}

// P8.2: whom pages are not for: Machine and above it, at any satp and address; nothing is marked then.
func TestMachine(t *testing.T) {
	e := numbered(leafPage(2), bitV|bitR|bitW|bitX|bitU)
	for _, priv := range privs {
		for _, kind := range kinds {
			for _, at := range []uint64{0, address, 1 << 38, 1 << 39, ones, base} {
				q := bookOf(2, e, priv, kind, sum)
				q.at = at
				got := q.hold(t)
				if as := got.at == at && got.ok && bytes.Equal(got.mem, q.mem); as != (priv >= api.Machine) {
					t.Fatalf("%s: %s", q.tell(), got.tell(q.mem))
				}
			}
		}
	}
}

// P8.2: modes other than 8 are without pages, at any privilege and address; what else satp has counts for nothing.
func TestModes(t *testing.T) {
	e := numbered(leafPage(2), bitV|bitR|bitW|bitX|bitU)
	for mode := range uint64(16) {
		for _, other := range []uint64{0, first / 4096, 1<<60 - 1} {
			for _, at := range []uint64{0, address, 1 << 38, 1 << 39, ones, base} {
				for _, priv := range lower {
					q := question{book(2, e), mode<<60 | other, sum, priv, at, api.Reading}
					got := q.hold(t)
					if as := got.at == at && got.ok && bytes.Equal(got.mem, q.mem); as != (mode != 8) {
						t.Fatalf("%s: %s", q.tell(), got.tell(q.mem))
					}
				}
			}
		}
	}
}

// P8.2: of satp bits 59-44 count for nothing, and each of bits 43-0 counts.
func TestSatpBits(t *testing.T) {
	e := numbered(leafPage(2), bitV|bitR)
	right := answer{leafPage(2) | 0xabc, book(2, e|bitA), 0, true}
	for i := range 60 {
		q := bookOf(2, e, api.Supervisor, api.Reading, 0)
		q.satp ^= 1 << i
		if got := q.hold(t); got.like(right) != (i >= 44) {
			t.Errorf("bit %d: %s", i, got.tell(q.mem))
		}
	}
}

// P8.2: each of bits 63-39 of an address must be as bit 38.
func TestHighestBits(t *testing.T) {
	mem := noise(0x4000)
	for _, at := range []uint64{address, address | 1<<38, address | 1<<37, 0, 1<<38 - 1, 1 << 38, 1<<39 - 1} {
		put(mem, first+at>>30*8, numbered(leafPage(0), bitV|bitR|bitW|bitX))
		extended := at
		if at >= 1<<38 {
			extended |= upper
		}
		for _, kind := range fewKinds {
			q := question{mem, on | first/4096, 0, api.Supervisor, extended, kind}
			if got := q.hold(t); !got.ok || got.at != leafPage(0)|at&(1<<30-1) {
				t.Fatalf("%s: %s", q.tell(), got.tell(mem))
			}
			for i := 39; i < 64; i++ {
				q.at = extended ^ 1<<i
				q.refused(t, true)
			}
			q.at = extended ^ upper
			q.refused(t, true)
		}
	}
}

// refused fails the test unless a question is answered as the fault that it is.
func (q question) refused(t *testing.T, page bool) {
	t.Helper()
	if got, want := q.hold(t), q.fault(page); !got.like(want) {
		t.Fatalf("%s: %s, not %s", q.tell(), got.tell(q.mem), want.tell(q.mem))
	}
}

// P8.2: a fault of an address is told ahead of a table that is no memory.
func TestHighestBitsFirst(t *testing.T) {
	for _, kind := range kinds {
		question{noise(16), on, 0, api.User, 1 << 39, kind}.refused(t, true)
		question{noise(16), on, 0, api.User, 1 << 37, kind}.refused(t, false)
	}
}

// P8.2: each level takes its bits of the address, each number that they may be, and eight bytes for each.
func TestEachIndex(t *testing.T) {
	for level := range 3 {
		for n := range uint64(512) {
			if n == 1 {
				continue
			}
			mem := oneTable()
			put(mem, base+8*n, numbered(leafPage(level), bitV|bitR|bitU))
			q := question{mem, on | base/4096, 0, api.User, inOneTable(level, n), api.Reading}
			if level == 0 && n >= 256 {
				q.at |= upper
			}
			got := q.hold(t)
			if !got.ok || get(got.mem, base+8*n) != numbered(leafPage(level), bitV|bitR|bitU|bitA) {
				t.Fatalf("level %d, entry %d: %s", level, n, got.tell(mem))
			}
		}
	}
}

// P8.2: the first table at memory's ends, ahead of it, behind it, and where it would be in memory if numbers were cut.
func TestFirstTablePlace(t *testing.T) {
	leaf := numbered(leafPage(0), bitV|bitR|bitW|bitX)
	for _, c := range []struct {
		size   int
		number uint64
		index  uint64
		found  bool
	}{
		{4096, base / 4096, 0, true},
		{8, base / 4096, 0, true},
		{7, base / 4096, 0, false},
		{1, base / 4096, 0, false},
		{0, base / 4096, 0, false},
		{8, base / 4096, 1, false},
		{15, base / 4096, 1, false},
		{16, base / 4096, 1, true},
		{4095, base / 4096, 511, false},
		{4096, base / 4096, 511, true},
		{4096, base/4096 + 1, 0, false},
		{4096 + 7, base/4096 + 1, 0, false},
		{4096 + 8, base/4096 + 1, 0, true},
		{api.MaxRam, base/4096 + 15, 511, true},
		{api.MaxRam, base/4096 + 16, 0, false},
		{api.MaxRam - 1, base/4096 + 15, 511, false},
		{4096, base/4096 - 1, 511, false},
		{4096, 0, 0, false},
		{4096, 1<<44 - 1, 511, false},
		{4096, 1<<20 | base/4096, 0, false},
		{4096, 1<<32 | base/4096, 0, false},
		{4096, 1<<40 | base/4096, 0, false},
		{4096, 1<<43 | base/4096, 0, false},
	} {
		for _, kind := range kinds {
			mem := make([]byte, c.size)
			for i := 0; i+8 <= c.size; i += 8 {
				put(mem, base+uint64(i), leaf)
			}
			q := question{mem, on | c.number, 0, api.Supervisor, c.index<<30 | 0x1234567, kind}
			if c.index >= 256 {
				q.at |= upper
			}
			if !c.found {
				q.refused(t, false)
			} else if got := q.hold(t); !got.ok {
				t.Fatalf("%s: %s", q.tell(), got.tell(mem))
			}
		}
	}
}

// P8.2, P8.3: the second and the third table at memory's ends, ahead of it and behind it.
func TestNextTablePlace(t *testing.T) {
	for level := range 2 {
		for _, c := range []struct {
			number uint64
			found  bool
		}{
			{base / 4096, true}, {base/4096 + 3, true}, {base/4096 + 4, false}, {base/4096 - 1, false}, {0, false}, {1<<44 - 1, false},
			{1<<20 | base/4096, false}, {1<<40 | base/4096, false}, {1<<43 | base/4096, false},
		} {
			for _, kind := range kinds {
				q := bookOf(level, c.number<<10|bitV, api.Supervisor, kind, 0)
				index := []uint64{0x13c, 0x1e7}[level]
				if c.found {
					put(q.mem, c.number*4096+8*index, numbered(leafPage(level+1), bitV|bitR|bitW|bitX))
					if got := q.hold(t); !got.ok {
						t.Fatalf("%s: %s", q.tell(), got.tell(q.mem))
					}
					continue
				}
				q.refused(t, false)
			}
		}
	}
}

// P8.2: memory that ends within the entry of a level is no memory there; that ends behind it is.
func TestEntryAtTheEnd(t *testing.T) {
	all := book(2, numbered(leafPage(2), bitV|bitR|bitW|bitX))
	for size := three - base - 9; size <= three-base+17; size++ {
		for _, kind := range fewKinds {
			q := question{slices.Clone(all[:size]), on | first/4096, 0, api.Supervisor, address, kind}
			if size < three-base+8 {
				q.refused(t, false)
			} else if got := q.hold(t); !got.ok {
				t.Fatalf("%s: %s", q.tell(), got.tell(q.mem))
			}
		}
	}
}

// P8.3: each level with no entry, with a table, with a leaf, and with each of the lowest ten bits of an entry, for each kind, privilege, and status.
func TestEntryBits(t *testing.T) {
	const index = 3
	for level := range 3 {
		mem := oneTable()
		at := inOneTable(level, index)
		for low := range uint64(1024) {
			e := numbered(leafPage(level), low)
			if low&(bitR|bitW|bitX) == 0 && level < 2 {
				// A table that is no memory: what leads there is an access fault, what does not is one of the page.
				e = numbered(base+4096, low)
			}
			put(mem, base+8*index, e)
			for _, kind := range fewKinds {
				for _, priv := range []int{-1, 0, 1, 2} {
					for _, status := range statuses[:4] {
						question{mem, on | base/4096, status, priv, at, kind}.hold(t)
					}
				}
			}
		}
	}
}

// P8.3: each bit of an entry that makes a fault, alone, on each level: of a leaf that is right else, and of a table.
func TestEntryFaults(t *testing.T) {
	const all = bitV | bitR | bitW | bitX | bitA | bitD
	for level := range 3 {
		leaf := numbered(leafPage(level), all)
		for _, kind := range kinds {
			if got := bookOf(level, leaf, api.Supervisor, kind, 0).hold(t); !got.ok {
				t.Fatalf("level %d, kind %d: %s", level, kind, got.tell(book(level, leaf)))
			}
			for _, wrong := range []uint64{leaf &^ bitV, leaf &^ bitR, leaf &^ (bitR | bitX), 0, numbered(leafPage(level), 0)} {
				bookOf(level, wrong, api.Supervisor, kind, mxr|sum).refused(t, true)
			}
			for i := 54; i < 64; i++ {
				bookOf(level, leaf|1<<i, api.Supervisor, kind, mxr|sum).refused(t, true)
			}
			tableFaults(t, level, kind)
		}
	}
}

// tableFaults looks at an entry that leads from a level to the next table: each bit that makes a fault, and each that makes none.
func tableFaults(t *testing.T, level int, kind int) {
	t.Helper()
	if level == 2 {
		for _, page := range []uint64{first, second, third, base, 0, leafPage(2)} {
			bookOf(2, numbered(page, bitV), api.Supervisor, kind, mxr|sum).refused(t, true)
		}
		return
	}
	q := bookOf(2, numbered(leafPage(2), bitV|bitR|bitW|bitX), api.Supervisor, kind, 0)
	e := get(q.mem, place(level))
	for i := range 64 {
		put(q.mem, place(level), e^1<<i)
		switch {
		case i == 0, i == 2, i == 4, i == 6, i == 7, i >= 54:
			q.refused(t, true)
		case i == 5, i == 8, i == 9:
			if got := q.hold(t); !got.ok || got.at != leafPage(2)|0xabc {
				t.Fatalf("level %d, bit %d: %s", level, i, got.tell(q.mem))
			}
		default:
			q.hold(t)
		}
	}
}

// P8.3: bits 5, 8 and 9 of a leaf count for nothing, and stay.
func TestEntryFreeBits(t *testing.T) {
	for level := range 3 {
		for _, free := range []uint64{bitG, bit8, bit9, bitG | bit8 | bit9} {
			e := numbered(leafPage(level), bitV|bitR|bitW|free)
			q := bookOf(level, e, api.Supervisor, api.Writing, 0)
			if got := q.hold(t); !got.ok || get(got.mem, place(level)) != e|bitA|bitD {
				t.Errorf("level %d, bits %#x: %s", level, free, got.tell(q.mem))
			}
		}
	}
}

// permission is a row of who may do what: with U, R, W, X, and status' bits 18 and 19.
type permission struct {
	user   bool
	status uint64
	page   uint64
	kinds  string // of those that may: fetch, read, write
}

// P8.4: who may do what, told row by row.
func TestPermissions(t *testing.T) {
	for _, c := range []permission{
		{true, 0, bitU | bitR, "r"},
		{true, 0, bitU | bitX, "f"},
		{true, 0, bitU | bitR | bitX, "fr"},
		{true, 0, bitU | bitR | bitW, "rw"},
		{true, 0, bitU | bitR | bitW | bitX, "frw"},
		{true, mxr, bitU | bitX, "fr"},
		{true, mxr, bitU | bitR, "r"},
		{true, mxr, bitU | bitR | bitW, "rw"},
		{true, sum | mxr, bitR | bitW | bitX, ""},
		{true, 0, bitR | bitW | bitX, ""},
		{true, sum, bitU | bitR | bitW | bitX, "frw"},
		{true, sum, bitU | bitX, "f"},
		{false, 0, bitR, "r"},
		{false, 0, bitX, "f"},
		{false, 0, bitR | bitX, "fr"},
		{false, 0, bitR | bitW, "rw"},
		{false, 0, bitR | bitW | bitX, "frw"},
		{false, mxr, bitX, "fr"},
		{false, mxr, bitR, "r"},
		{false, sum, bitX, "f"},
		{false, sum, bitR | bitW | bitX, "frw"},
		{false, 0, bitU | bitR | bitW | bitX, ""},
		{false, mxr, bitU | bitR | bitW | bitX, ""},
		{false, sum, bitU | bitR | bitW | bitX, "rw"},
		{false, sum, bitU | bitR, "r"},
		{false, sum, bitU | bitX, ""},
		{false, sum | mxr, bitU | bitX, "r"},
		{false, sum | mxr, bitU | bitR | bitW | bitX, "rw"},
	} {
		privs := []int{1, 2}
		if c.user {
			privs = []int{0, -1, -3, -1 << 63}
		}
		for level := range 3 {
			for _, priv := range privs {
				c.hold(t, level, priv)
			}
		}
	}
}

// hold asks of each kind whether it may, as the row says.
func (c permission) hold(t *testing.T, level int, priv int) {
	t.Helper()
	for _, kind := range kinds {
		name := "r"
		switch kind {
		case api.Fetch:
			name = "f"
		case api.Writing:
			name = "w"
		}
		q := bookOf(level, numbered(leafPage(level), bitV|c.page), priv, kind, c.status)
		if !bytes.Contains([]byte(c.kinds), []byte(name)) {
			q.refused(t, true)
		} else if got := q.hold(t); !got.ok {
			t.Fatalf("%s of %#x: %s", q.tell(), c.page, got.tell(q.mem))
		}
	}
}

// P8.4: each privilege with U at 0 and at 1, each of R, W and X, each kind, on each level, whatever else stands in status.
func TestPermissionsAll(t *testing.T) {
	for level := range 3 {
		for rights := range uint64(16) {
			e := numbered(leafPage(level), bitV|rights<<1)
			for _, priv := range privs {
				for _, kind := range kinds {
					for _, status := range statuses {
						bookOf(level, e, priv, kind, status).hold(t)
					}
				}
			}
		}
	}
}

// P8.4: of status bits 18 and 19 count alone, each where it does.
func TestStatusBits(t *testing.T) {
	for i := range 64 {
		for _, c := range []struct {
			page uint64
			may  int // the bit that lets the Supervisor read it
		}{
			{bitU | bitR | bitW, 18}, {bitX, 19}, {bitR | bitX, -1},
		} {
			q := bookOf(2, numbered(leafPage(2), bitV|c.page), api.Supervisor, api.Reading, 1<<i)
			if got := q.hold(t); got.ok != (i == c.may || c.may < 0) {
				t.Errorf("bit %d, page %#x: %s", i, c.page, got.tell(q.mem))
			}
			q.status = ones - 1<<i
			if got := q.hold(t); got.ok != (i != c.may) {
				t.Errorf("all but bit %d, page %#x: %s", i, c.page, got.tell(q.mem))
			}
		}
	}
}

// P8.4: greater pages begin at a multiple of what they have: each lower bit of the number makes a fault, each other one none.
func TestGreaterPages(t *testing.T) {
	for level := range 3 {
		for i := range 44 {
			for _, kind := range kinds {
				e := numbered(leafPage(level), bitV|bitR|bitW|bitX) ^ 1<<(10+i)
				q := bookOf(level, e, api.Supervisor, kind, 0)
				if i < steps[level].empty {
					q.refused(t, true)
					continue
				}
				whole := uint64(1) << steps[level].low
				want := leafPage(level)/whole*whole ^ 1<<(12+i) | address%whole
				if got := q.hold(t); !got.ok || got.at != want {
					t.Fatalf("level %d, bit %d of the number: %s", level, i, got.tell(q.mem))
				}
			}
		}
	}
}

// P8.4: each bit of an address that a leaf leaves comes out as it is, and no other.
func TestPlaceInThePage(t *testing.T) {
	for level := range 3 {
		mem := oneTable()
		put(mem, base+8*3, numbered(leafPage(level), bitV|bitR))
		at := inOneTable(level, 3)
		low := steps[level].low
		for i := range low {
			for _, rest := range []uint64{1 << i, 1<<low - 1 - 1<<i, 1<<i - 1} {
				q := question{mem, on | base/4096, 0, api.Supervisor, at>>low<<low | rest, api.Reading}
				if got := q.hold(t); !got.ok || got.at != leafPage(level)+rest {
					t.Fatalf("level %d, %#x: %s", level, rest, got.tell(mem))
				}
			}
		}
	}
}

// P8.4: a page need not be memory: the greatest number, the least, and all between leads where it says.
func TestPageThatIsNoMemory(t *testing.T) {
	for _, number := range []uint64{0, 1, 0x10000, base/4096 - 1, base / 4096, base/4096 + 4, 1 << 20, 1 << 43, 1<<44 - 1} {
		q := bookOf(2, number<<10|bitV|bitR|bitU, api.User, api.Reading, 0)
		if got := q.hold(t); !got.ok || got.at != number*4096+0xabc {
			t.Errorf("number %#x: %s", number, got.tell(q.mem))
		}
	}
}

// P8.4: A and D as they are in memory before and behind it, of each kind, on each level; nothing else of memory is another.
func TestMarks(t *testing.T) {
	for level := range 3 {
		for _, before := range []uint64{0, bitA, bitD, bitA | bitD} {
			for _, kind := range kinds {
				e := numbered(leafPage(level), bitV|bitR|bitW|bitX|before)
				after := e | bitA
				if kind == api.Writing {
					after |= bitD
				}
				q := bookOf(level, e, api.Supervisor, kind, 0)
				if got := q.hold(t); !bytes.Equal(got.mem, book(level, after)) {
					t.Errorf("level %d, marks %#x, kind %d: %s", level, before, kind, got.tell(q.mem))
				}
			}
		}
	}
}

// P8.4, R6: of a fault nothing is marked, though the entry was found.
func TestNoMarksOfAFault(t *testing.T) {
	for level := range 3 {
		for _, kind := range kinds {
			bookOf(level, numbered(leafPage(level), bitV|bitR|bitW|bitX), api.User, kind, sum|mxr).refused(t, true)
			if level < 2 {
				bookOf(level, numbered(leafPage(level)+4096, bitV|bitR|bitW|bitX), api.Supervisor, kind, 0).refused(t, true)
			}
		}
	}
}

// again fails the test unless what was translated is translated the same again, and memory stays then.
func (q question) again(t *testing.T) {
	t.Helper()
	s := q.hold(t)
	if !s.ok {
		return
	}
	q.mem = s.mem
	if got := q.hold(t); !got.like(s) {
		t.Fatalf("%s again: %s, not %s", q.tell(), got.tell(s.mem), s.tell(s.mem))
	}
}

// P8.5: of each kind, on each level, with all marks there were.
func TestTranslatedAgain(t *testing.T) {
	for level := range 3 {
		for marks := range uint64(4) {
			for _, kind := range kinds {
				for _, priv := range privs {
					bookOf(level, numbered(leafPage(level), bitV|bitR|bitW|bitX|marks<<6), priv, kind, sum).again(t)
				}
			}
		}
	}
}

// P8.4, P8.5: a leaf whose page is that of a table, its own among them: it is marked, and led to, as others are.
func TestLeafToTables(t *testing.T) {
	for _, page := range []uint64{first, second, third} {
		for _, kind := range fewKinds {
			q := bookOf(2, numbered(page, bitV|bitR|bitW|bitX), api.Supervisor, kind, 0)
			if got := q.hold(t); !got.ok || got.at != page|0xabc {
				t.Errorf("page %#x: %s", page, got.tell(q.mem))
			}
			q.again(t)
		}
	}
}

// P8.3: tables that lead to one another, or to themselves, end behind three levels.
func TestTablesInARing(t *testing.T) {
	mem := make([]byte, 4096)
	for i := range uint64(512) {
		put(mem, base+8*i, numbered(base, bitV))
	}
	for _, at := range []uint64{0, address, ones, 1<<38 - 1, upper | 1<<38} {
		for _, kind := range kinds {
			question{mem, on | base/4096, 0, api.Supervisor, at, kind}.refused(t, true)
		}
	}
}

// P8.2 to P8.5: tables and questions as chance would have them, many of them right.
func TestManyTables(t *testing.T) {
	next := chance()
	done := 0
	for range 40000 {
		mem := make([]byte, 512)
		at := uint64(0)
		for _, s := range steps {
			at |= next() % 64 << s.low
		}
		at |= next() % 4096
		for i := range uint64(64) {
			put(mem, base+8*i, someEntry(next))
		}
		kind, priv := fewKinds[next()%5], lower[next()%5]
		q := question{mem, on | base/4096 | next()%65536<<44, next(), priv, at, kind}
		if next()%50 == 0 {
			q.at ^= 1 << (next() % 64)
		}
		q.again(t)
		if q.ask().ok {
			done++
		}
	}
	if done < 4000 {
		t.Errorf("just %d were translated", done)
	}
}

// someEntry answers an entry: mostly one that leads back to the table, or a leaf that may be on each level, now and then any leaf, or any number.
func someEntry(next func() uint64) uint64 {
	n := next()
	switch which := next() % 16; {
	case which < 8:
		return numbered(base, bitV) | n&(bitG|bit8|bit9)
	case which < 13:
		return numbered(n>>38<<30, bitV|bitR|n&1023)
	case which < 15:
		return numbered(n>>8, bitV|n&1023)
	}
	return n >> (next() % 64)
}

// R3: what is handed in stays as it was, the room behind its end, too, whether it is done or refused.
func TestHandedInStays(t *testing.T) {
	for _, q := range someQuestions() {
		was := slices.Clone(q.mem[:cap(q.mem)])
		q.ask()
		if !bytes.Equal(q.mem[:cap(q.mem)], was) {
			t.Errorf("%s", q.tell())
		}
	}
}

// R3: memory that is answered shares nothing with memory that was handed in, whether it is done or refused.
func TestAnswersUnshared(t *testing.T) {
	for _, q := range someQuestions() {
		if shared(q.ask().mem, q.mem) {
			t.Errorf("%s", q.tell())
		}
	}
}

// someQuestions are such of all ways to end: without pages, done, refused on each level, of memory with room behind its end.
func someQuestions() []question {
	qs := []question{}
	for level := range 3 {
		for _, e := range []uint64{numbered(leafPage(level), bitV|bitR|bitW|bitX), numbered(leafPage(level), bitV), 0} {
			for _, priv := range []int{0, 1, 3} {
				for _, satp := range []uint64{0, on, on | first/4096} {
					for _, at := range []uint64{address, 1 << 39} {
						mem := append(book(level, e), noise(16)...)
						qs = append(qs, question{mem[:0x4000], satp, 0, priv, at, api.Writing})
					}
				}
			}
		}
	}
	return qs
}

// R7: of memory its length alone counts: a table in the room behind its end is none.
func TestRoomBehindTheEnd(t *testing.T) {
	all := book(2, numbered(leafPage(2), bitV|bitR|bitW|bitX))
	for _, kind := range kinds {
		question{all[:three-base+7], on | first/4096, 0, api.Supervisor, address, kind}.refused(t, false)
		question{all[:first-base], on | first/4096, 0, api.Supervisor, address, kind}.refused(t, false)
	}
}

// P8.2, R1: memory that has no bytes: an address without pages is itself, with them there is no table.
func TestNoMemory(t *testing.T) {
	for _, mem := range [][]byte{nil, {}} {
		for _, kind := range kinds {
			for _, satp := range []uint64{0, on, on | base/4096} {
				for _, priv := range privs {
					question{mem, satp, 0, priv, address, kind}.hold(t)
				}
			}
		}
	}
}

// R1, R8: no call panics, at whatever it is given, and each answers the same again.
func TestAnyArguments(t *testing.T) {
	next := chance()
	for range 20000 {
		mem := make([]byte, next()%200)
		for i := range mem {
			mem[i] = byte(next())
		}
		some := func() uint64 { return next() >> (next() % 64) }
		q := question{mem, some(), some(), int(some()), some(), int(some())}
		if next()%2 == 0 {
			q.satp, q.priv = on|base/4096, int(next()%3)
		}
		if s := q.hold(t); !q.ask().like(s) {
			t.Fatalf("%s", q.tell())
		}
		if page := next()%2 == 0; Fault(q.kind, page) != faultOf(q.kind, page) {
			t.Fatalf("Fault(%d, %v)", q.kind, page)
		}
	}
}
