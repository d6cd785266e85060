package plic

import (
	"testing"

	"drawbridge/api"
)

// marker stands in the room behind the rows' ends.
const marker = -77

// roomy answers a controller like p, with room behind the end of each row.
func roomy(p api.Plic) api.Plic {
	for _, row := range rowsOf(&p) {
		wide := append(append(make([]int, 0, len(*row)+3), *row...), marker, marker, marker)
		*row = wide[:len(*row)]
	}
	return p
}

// scribble overwrites a controller's rows, and the room behind their ends.
func scribble(p *api.Plic) {
	for _, row := range rowsOf(p) {
		wide := (*row)[:cap(*row)]
		for i := range wide {
			wide[i] = 1000 + i
		}
	}
}

// calls are those that answer a controller, done and refused.
func calls() map[string]func(p api.Plic) api.Plic {
	list := map[string]func(p api.Plic) api.Plic{
		"Set of all lines":     func(p api.Plic) api.Plic { return Set(p, -1) },
		"Set of no lines":      func(p api.Plic) api.Plic { return Set(p, 0) },
		"Load at no place":     func(p api.Plic) api.Plic { _, left, _ := Load(p, 0, 4); return left },
		"Load of no size":      func(p api.Plic) api.Plic { _, left, _ := Load(p, 4, 8); return left },
		"Store at no place":    func(p api.Plic) api.Plic { left, _ := Store(p, 0, 4, 7); return left },
		"Store of no size":     func(p api.Plic) api.Plic { left, _ := Store(p, 4, 8, 7); return left },
		"Store at a far place": func(p api.Plic) api.Plic { left, _ := Store(p, ones, 4, 7); return left },
	}
	for _, at := range table {
		list["Load of "+at.name] = func(p api.Plic) api.Plic { _, left, _ := Load(p, at.off, 4); return left }
		list["Store of "+at.name] = func(p api.Plic) api.Plic { left, _ := Store(p, at.off, 4, 2); return left }
	}
	return list
}

// all answers controllers that may be, and such as may not.
func all() []api.Plic {
	list := some()
	for _, p := range wrongOnes() {
		list = append(list, p)
	}
	return list
}

// R3, R7: no call changes what is handed in, its rows, or the room behind their ends.
func TestHandedInStays(t *testing.T) {
	list := calls()
	list["Best"] = func(p api.Plic) api.Plic { Best(p, 0); Best(p, 1); return New() }
	list["Check"] = func(p api.Plic) api.Plic { Check(p); return New() }
	for _, was := range all() {
		for name, call := range list {
			p := roomy(was)
			call(p)
			if !same(p, was) {
				t.Errorf("%s: %s was %s", name, tell(p), tell(was))
			}
			for _, row := range rowsOf(&p) {
				for _, x := range (*row)[len(*row):cap(*row)] {
					if x != marker {
						t.Errorf("%s: %d behind a row's end", name, x)
					}
				}
			}
		}
	}
}

// R3: what is answered shares nothing with what was handed in, whether it is done or refused.
func TestAnswersUnshared(t *testing.T) {
	for _, was := range all() {
		for name, call := range calls() {
			p := roomy(was)
			got := call(p)
			want := copyOf(got)
			scribble(&got)
			if !same(p, was) {
				t.Errorf("%s: %s was %s", name, tell(p), tell(was))
			}
			got = call(p)
			scribble(&p)
			if !same(got, want) {
				t.Errorf("%s: %s was %s", name, tell(got), tell(want))
			}
		}
	}
}

// R3: no two rows of an answer share anything, nor the room behind their ends.
func TestRowsUnshared(t *testing.T) {
	list := calls()
	list["New"] = func(api.Plic) api.Plic { return New() }
	for _, p := range all() {
		for name, call := range list {
			for i := range 3 {
				got := call(p)
				want := copyOf(got)
				row := *rowsOf(&got)[i]
				row = append(row, 1000, 1001, 1002, 1003)
				for j := range row {
					row[j] = 2000 + j
				}
				*rowsOf(&got)[i] = *rowsOf(&want)[i]
				if !same(got, want) {
					t.Errorf("%s: row %d reaches others: %s, not %s", name, i, tell(got), tell(want))
				}
			}
		}
	}
}

// R3: rows that are handed in as one list are read each by itself.
func TestOneListForRows(t *testing.T) {
	one := []int{0, 2, 4, 6}
	p := api.Plic{Prio: one[:3], Enable: one[1:3], Threshold: one[1:3]}
	left, ok := Store(p, 0x2000, 4, 6)
	if want := (plicOf(2, 4, 0, 0, 6, 4, 2, 4)); !same(left, want) || !ok {
		t.Errorf("%s, %v, not %s", tell(left), ok, tell(want))
	}
}

// R7: of a row its length alone counts: one that is too short may not be, whatever the room behind its end holds.
func TestRoomBehindTheEnd(t *testing.T) {
	p := api.Plic{Prio: []int{0, 1, 2, 9}[:3], Enable: []int{2, 4, 9}[:2], Threshold: []int{0, 1, 9}[:2], Pending: 2}
	if !Check(p) || Best(p, 0) != 1 {
		t.Error("rows with room behind them")
	}
	p.Prio = []int{0, 1, 2}[:2]
	if Check(p) || Best(p, 0) != 0 {
		t.Error("a row that is too short")
	}
}

// R1, R4: none panics, at whatever it is given, and the same call answers the same.
func TestSameAgain(t *testing.T) {
	next := chance()
	list := all()
	for range 100000 {
		p := list[next()%len(list)]
		off, size, x := uint64(next())<<1, next()-next(), uint64(next())<<1
		if next()%4 != 0 {
			off, size = table[next()%len(table)].off, 4
		}
		number, loaded, ok := Load(p, off, size)
		left, stored := Store(p, off, size, x)
		set, best := Set(p, int(x)), Best(p, size)
		if want, wantLoaded, is := loadOf(p, off, size); number != want || !same(loaded, wantLoaded) || ok != is {
			t.Fatalf("Load(%s, %#x, %d) = %d, %s, %v", tell(p), off, size, number, tell(loaded), ok)
		}
		if want, is := storeOf(p, off, size, x); !same(left, want) || stored != is {
			t.Fatalf("Store(%s, %#x, %d, %#x) = %s, %v", tell(p), off, size, x, tell(left), stored)
		}
		if again, againLoaded, is := Load(p, off, size); again != number || !same(againLoaded, loaded) || is != ok {
			t.Fatalf("Load(%s, %#x, %d) again", tell(p), off, size)
		}
		if again, is := Store(p, off, size, x); !same(again, left) || is != stored {
			t.Fatalf("Store(%s, %#x, %d, %#x) again", tell(p), off, size, x)
		}
		if !same(Set(p, int(x)), set) || Best(p, size) != best {
			t.Fatalf("Set or Best of %s again", tell(p))
		}
	}
}
