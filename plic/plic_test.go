package plic

import (
	"math"
	"testing"

	"drawbridge/api"
)

// P10.3: the chapter's example.
func TestExample(t *testing.T) {
	p, ok := Store(New(), 4, 4, 3)
	if !ok {
		t.Fatal("Prio of 1")
	}
	p, ok = Store(p, 0x2000, 4, 2)
	if !ok {
		t.Fatal("Enable")
	}
	p = Set(p, 1<<1)
	if best := Best(p, 0); best != 1 {
		t.Errorf("Best = %d", best)
	}
	x, p, ok := Load(p, 0x200004, 4)
	if x != 1 || !ok {
		t.Errorf("Load = %d, %v", x, ok)
	}
	x, _, ok = Load(p, 0x200004, 4)
	if x != 0 || !ok {
		t.Errorf("Load again = %d, %v", x, ok)
	}
}

// P10.1: New, number by number, and that it may be.
func TestNew(t *testing.T) {
	p := New()
	if want := (api.Plic{Prio: []int{0, 0, 0}, Enable: []int{0, 0}, Threshold: []int{0, 0}}); !same(p, want) {
		t.Errorf("New = %s", tell(p))
	}
	if !Check(p) {
		t.Error("it may not be")
	}
}

// R4: two controllers know nothing of one another.
func TestNewApart(t *testing.T) {
	a, b := New(), New()
	scribble(&a)
	if !same(b, plicOf(0, 0, 0, 0, 0, 0, 0, 0)) || !same(New(), b) {
		t.Errorf("%s, %s", tell(b), tell(New()))
	}
}

// P10.1: each condition of Check, broken alone, and at its edges.
func TestCheckEdges(t *testing.T) {
	for _, e := range []struct {
		name string
		want bool
		do   func(p *api.Plic)
	}{
		{"as it is", true, func(*api.Plic) {}},
		{"first Prio -1", false, func(p *api.Plic) { p.Prio[0] = -1 }},
		{"first Prio 0", true, func(p *api.Plic) { p.Prio[0] = 0 }},
		{"first Prio 1", false, func(p *api.Plic) { p.Prio[0] = 1 }},
		{"first Prio 7", false, func(p *api.Plic) { p.Prio[0] = 7 }},
		{"first Prio 8", false, func(p *api.Plic) { p.Prio[0] = 8 }},
		{"second Prio -1", false, func(p *api.Plic) { p.Prio[1] = -1 }},
		{"second Prio 0", true, func(p *api.Plic) { p.Prio[1] = 0 }},
		{"second Prio 7", true, func(p *api.Plic) { p.Prio[1] = 7 }},
		{"second Prio 8", false, func(p *api.Plic) { p.Prio[1] = 8 }},
		{"third Prio -1", false, func(p *api.Plic) { p.Prio[2] = -1 }},
		{"third Prio 0", true, func(p *api.Plic) { p.Prio[2] = 0 }},
		{"third Prio 7", true, func(p *api.Plic) { p.Prio[2] = 7 }},
		{"third Prio 8", false, func(p *api.Plic) { p.Prio[2] = 8 }},
		{"first Threshold -1", false, func(p *api.Plic) { p.Threshold[0] = -1 }},
		{"first Threshold 0", true, func(p *api.Plic) { p.Threshold[0] = 0 }},
		{"first Threshold 7", true, func(p *api.Plic) { p.Threshold[0] = 7 }},
		{"first Threshold 8", false, func(p *api.Plic) { p.Threshold[0] = 8 }},
		{"second Threshold -1", false, func(p *api.Plic) { p.Threshold[1] = -1 }},
		{"second Threshold 0", true, func(p *api.Plic) { p.Threshold[1] = 0 }},
		{"second Threshold 7", true, func(p *api.Plic) { p.Threshold[1] = 7 }},
		{"second Threshold 8", false, func(p *api.Plic) { p.Threshold[1] = 8 }},
		{"Prio nil", false, func(p *api.Plic) { p.Prio = nil }},
		{"Prio empty", false, func(p *api.Plic) { p.Prio = []int{} }},
		{"Prio of two", false, func(p *api.Plic) { p.Prio = []int{0, 1} }},
		{"Prio of three", true, func(p *api.Plic) { p.Prio = []int{0, 1, 2} }},
		{"Prio of four", false, func(p *api.Plic) { p.Prio = []int{0, 1, 2, 0} }},
		{"Enable nil", false, func(p *api.Plic) { p.Enable = nil }},
		{"Enable empty", false, func(p *api.Plic) { p.Enable = []int{} }},
		{"Enable of one", false, func(p *api.Plic) { p.Enable = []int{2} }},
		{"Enable of two", true, func(p *api.Plic) { p.Enable = []int{2, 4} }},
		{"Enable of three", false, func(p *api.Plic) { p.Enable = []int{2, 4, 0} }},
		{"Threshold nil", false, func(p *api.Plic) { p.Threshold = nil }},
		{"Threshold empty", false, func(p *api.Plic) { p.Threshold = []int{} }},
		{"Threshold of one", false, func(p *api.Plic) { p.Threshold = []int{2} }},
		{"Threshold of two", true, func(p *api.Plic) { p.Threshold = []int{2, 4} }},
		{"Threshold of three", false, func(p *api.Plic) { p.Threshold = []int{2, 4, 0} }},
		{"Pending and Claimed all", true, func(p *api.Plic) { p.Pending, p.Claimed = 6, 6 }},
	} {
		p := plicOf(3, 4, 2, 4, 2, 6, 1, 2)
		e.do(&p)
		if Check(p) != e.want {
			t.Errorf("%s: Check = %v", e.name, !e.want)
		}
	}
}

// P10.1: of bits of sources just 1 and 2 may be, each of the others alone may not, and no number below 0.
func TestCheckBits(t *testing.T) {
	xs := []int{math.MinInt, math.MaxInt, math.MinInt + 2, -1, -2, -3, -4, -6, -8}
	for bit := range 64 {
		xs = append(xs, 1<<bit, 1<<bit|6, ^(1 << bit))
	}
	for x := range 70 {
		xs = append(xs, x, -x)
	}
	for _, x := range xs {
		want := x == 0 || x == 2 || x == 4 || x == 6
		for name, do := range map[string]func(p *api.Plic){
			"Pending":       func(p *api.Plic) { p.Pending = x },
			"Claimed":       func(p *api.Plic) { p.Claimed = x },
			"first Enable":  func(p *api.Plic) { p.Enable[0] = x },
			"second Enable": func(p *api.Plic) { p.Enable[1] = x },
		} {
			p := plicOf(3, 4, 2, 4, 2, 6, 1, 2)
			do(&p)
			if Check(p) != want {
				t.Errorf("%s %d: Check = %v", name, x, !want)
			}
		}
	}
}

// P10.1: Check of all small numbers, right ones and wrong ones among one another, and of rows of each small length.
func TestCheck(t *testing.T) {
	around := []int{-9, -8, -1, 0, 1, 2, 6, 7, 8, 9}
	for _, x := range combined(around, around, around, around, around) {
		for _, p := range []api.Plic{
			{Prio: x[:3], Enable: []int{0, 2}, Threshold: x[3:]},
			{Prio: []int{0, 1, 2}, Enable: x[:2], Threshold: []int{0, 1}, Pending: x[2], Claimed: x[3]},
		} {
			if Check(p) != checkOf(p) {
				t.Fatalf("%s: Check = %v", tell(p), Check(p))
			}
		}
	}
	lengths := []int{0, 1, 2, 3, 4, 5, 300}
	for _, n := range combined(lengths, lengths, lengths) {
		p := api.Plic{Prio: make([]int, n[0]), Enable: make([]int, n[1]), Threshold: make([]int, n[2])}
		if want := n[0] == 3 && n[1] == 2 && n[2] == 2; Check(p) != want {
			t.Errorf("rows of %v: Check = %v", n, !want)
		}
	}
}

// P10.1: all controllers that may be are told so.
func TestCheckRight(t *testing.T) {
	count := 0
	each(levels, levels, func(p api.Plic) {
		count++
		if !Check(p) {
			t.Fatalf("%s may not be", tell(p))
		}
	})
	if count != 1<<20 {
		t.Errorf("%d were asked", count)
	}
}

// P10.1, R1: of a controller that may not be all calls answer zeros, it as it is, and false.
func TestMayNotBe(t *testing.T) {
	for name, p := range wrongOnes() {
		was := copyOf(p)
		if Check(p) {
			t.Errorf("%s: it may be", name)
		}
		for _, lines := range []int{0, 2, 4, 6, -1} {
			if got := Set(p, lines); !same(got, was) {
				t.Errorf("%s: Set(%d) = %s, not %s", name, lines, tell(got), tell(was))
			}
		}
		for _, ctx := range []int{-1, 0, 1, 2} {
			if best := Best(p, ctx); best != 0 {
				t.Errorf("%s: Best(%d) = %d", name, ctx, best)
			}
		}
		for _, at := range table {
			if x, got, ok := Load(p, at.off, 4); x != 0 || !same(got, was) || ok {
				t.Errorf("%s: Load of %s = %d, %s, %v", name, at.name, x, tell(got), ok)
			}
			for _, x := range []uint64{0, 1, 2, 5} {
				if got, ok := Store(p, at.off, 4, x); !same(got, was) || ok {
					t.Errorf("%s: Store of %s = %s, %v", name, at.name, tell(got), ok)
				}
			}
		}
		if !same(p, was) {
			t.Errorf("%s: %s was %s", name, tell(p), tell(was))
		}
	}
}

// P10.2: Set, told case by case: sources that are claimed do not become pending, those that are pending stay so.
func TestSetExamples(t *testing.T) {
	for _, e := range []struct{ pending, claimed, lines, want int }{
		{0, 0, 0, 0},
		{0, 0, 2, 2},
		{0, 0, 4, 4},
		{0, 0, 6, 6},
		{0, 0, -1, 6},
		{0, 0, math.MaxInt, 6},
		{0, 0, math.MinInt, 0},
		{0, 0, 1, 0},
		{0, 0, 8, 0},
		{0, 0, ^6, 0},
		{0, 0, 1<<32 + 1<<33, 0},
		{2, 0, 0, 2},
		{2, 0, 2, 2},
		{2, 0, 4, 6},
		{4, 0, 2, 6},
		{6, 0, 0, 6},
		{0, 2, 2, 0},
		{0, 2, 4, 4},
		{0, 2, 6, 4},
		{0, 4, 6, 2},
		{0, 6, 6, 0},
		{0, 6, -1, 0},
		{4, 2, 6, 4},
		{4, 2, 0, 4},
		{2, 2, 0, 2}, // no call leads there, yet what is pending stays so
		{2, 2, 2, 2},
		{6, 6, -1, 6},
	} {
		p := plicOf(3, 4, e.pending, e.claimed, 2, 6, 1, 2)
		want := plicOf(3, 4, e.want, e.claimed, 2, 6, 1, 2)
		if got := Set(p, e.lines); !same(got, want) {
			t.Errorf("Set(%s, %d) = %s, not Pending %d", tell(p), e.lines, tell(got), e.want)
		}
	}
}

// P10.2: Set of each that may be pending and claimed, with lines of each small number, each bit alone, and all but one.
func TestSet(t *testing.T) {
	lines := []int{math.MinInt, math.MaxInt}
	for x := range 40 {
		lines = append(lines, x, -x)
	}
	for bit := range 64 {
		lines = append(lines, 1<<bit, ^(1 << bit))
	}
	each([]int{0, 7}, []int{0, 3}, func(p api.Plic) {
		for _, x := range lines {
			if got, want := Set(p, x), setOf(p, x); !same(got, want) {
				t.Fatalf("Set(%s, %d) = %s, not %s", tell(p), x, tell(got), tell(want))
			}
		}
	})
}

// P10.2: Best, told case by case: pending, enabled, above, at and below the threshold, and of several the greatest or the first one.
func TestBestExamples(t *testing.T) {
	for _, e := range []struct {
		name string
		p    api.Plic
		want [2]int
	}{
		{"nothing", New(), [2]int{0, 0}},
		{"1 pending", plicOf(1, 1, 2, 0, 6, 6, 0, 0), [2]int{1, 1}},
		{"2 pending", plicOf(1, 1, 4, 0, 6, 6, 0, 0), [2]int{2, 2}},
		{"none pending", plicOf(1, 1, 0, 0, 6, 6, 0, 0), [2]int{0, 0}},
		{"none pending, but claimed", plicOf(1, 1, 0, 6, 6, 6, 0, 0), [2]int{0, 0}},
		{"1 enabled by one, 2 by the other", plicOf(1, 1, 6, 0, 2, 4, 0, 0), [2]int{1, 2}},
		{"the other way round", plicOf(1, 1, 6, 0, 4, 2, 0, 0), [2]int{2, 1}},
		{"enabled by one", plicOf(7, 7, 6, 0, 6, 0, 0, 0), [2]int{1, 0}},
		{"enabled by the other", plicOf(7, 7, 6, 0, 0, 6, 0, 0), [2]int{0, 1}},
		{"enabled, but not what is pending", plicOf(7, 7, 2, 0, 4, 4, 0, 0), [2]int{0, 0}},
		{"equal", plicOf(5, 5, 6, 0, 6, 6, 0, 4), [2]int{1, 1}},
		{"1 greater", plicOf(6, 5, 6, 0, 6, 6, 0, 4), [2]int{1, 1}},
		{"2 greater", plicOf(5, 6, 6, 0, 6, 6, 0, 4), [2]int{2, 2}},
		{"2 greater, not enabled by one", plicOf(5, 6, 6, 0, 2, 6, 0, 4), [2]int{1, 2}},
		{"2 greater, not pending", plicOf(5, 6, 2, 0, 6, 6, 0, 4), [2]int{1, 1}},
		{"just above the threshold", plicOf(4, 0, 2, 0, 2, 2, 3, 4), [2]int{1, 0}},
		{"at the threshold", plicOf(4, 4, 6, 0, 6, 6, 4, 4), [2]int{0, 0}},
		{"below the threshold", plicOf(3, 2, 6, 0, 6, 6, 4, 7), [2]int{0, 0}},
		{"2 above the threshold, 1 at it", plicOf(4, 5, 6, 0, 6, 6, 4, 5), [2]int{2, 0}},
		{"1 above the threshold, 2 at it", plicOf(5, 4, 6, 0, 6, 6, 4, 5), [2]int{1, 0}},
		{"Prio 0", plicOf(0, 0, 6, 0, 6, 6, 0, 0), [2]int{0, 0}},
		{"Prio 7, threshold 7", plicOf(7, 7, 6, 0, 6, 6, 7, 6), [2]int{0, 1}},
		{"pending and claimed, as no call leads to", plicOf(1, 2, 6, 6, 6, 2, 0, 0), [2]int{2, 1}},
	} {
		for ctx, want := range e.want {
			if best := Best(e.p, ctx); best != want {
				t.Errorf("%s: Best(%d) = %d, not %d", e.name, ctx, best, want)
			}
		}
	}
}

// P10.2: Best of all controllers that may be.
func TestBest(t *testing.T) {
	each(levels, levels, func(p api.Plic) {
		for ctx := range 2 {
			if got, want := Best(p, ctx), bestOf(p, ctx); got != want {
				t.Fatalf("Best(%s, %d) = %d, not %d", tell(p), ctx, got, want)
			}
		}
	})
}

// P10.2: to contexts that there are not nothing is told.
func TestNoContext(t *testing.T) {
	p := plicOf(7, 7, 6, 0, 6, 6, 0, 0)
	for _, ctx := range []int{-1, 2, -2, 3, 4, 8, 256, 257, 1 << 32, 1<<32 + 1, -1 << 32, -1<<32 + 1, math.MinInt, math.MinInt + 1, math.MaxInt} {
		if best := Best(p, ctx); best != 0 {
			t.Errorf("Best(%d) = %d", ctx, best)
		}
	}
	if Best(p, 0) != 1 || Best(p, 1) != 1 {
		t.Error("those that there are")
	}
}

// P10.3: Load, told number by number.
func TestLoadExamples(t *testing.T) {
	p := plicOf(3, 5, 6, 0, 2, 4, 1, 2)
	for _, e := range []struct {
		off  uint64
		x    uint64
		want api.Plic
	}{
		{0x4, 3, p},
		{0x8, 5, p},
		{0x1000, 6, p},
		{0x2000, 2, p},
		{0x2080, 4, p},
		{0x200000, 1, p},
		{0x201000, 2, p},
		{0x200004, 1, plicOf(3, 5, 4, 2, 2, 4, 1, 2)},
		{0x201004, 2, plicOf(3, 5, 2, 4, 2, 4, 1, 2)},
	} {
		if x, got, ok := Load(p, e.off, 4); x != e.x || !same(got, e.want) || !ok {
			t.Errorf("Load(%#x) = %d, %s, %v, not %d, %s", e.off, x, tell(got), ok, e.x, tell(e.want))
		}
	}
}

// P10.3: where nothing is told to a context, a claim answers 0 and true, and the controller is as it was.
func TestClaimOfNothing(t *testing.T) {
	for _, p := range []api.Plic{
		New(),
		plicOf(7, 7, 0, 6, 6, 6, 0, 0),
		plicOf(7, 7, 6, 0, 0, 0, 0, 0),
		plicOf(7, 7, 6, 0, 6, 6, 7, 7),
		plicOf(0, 0, 6, 0, 6, 6, 0, 0),
		plicOf(7, 7, 2, 4, 4, 4, 0, 0),
	} {
		for _, off := range []uint64{0x200004, 0x201004} {
			if x, got, ok := Load(p, off, 4); x != 0 || !same(got, p) || !ok {
				t.Errorf("Load(%s, %#x) = %d, %s, %v", tell(p), off, x, tell(got), ok)
			}
		}
	}
}

// P10.3: what is loaded of each register of each controller that has these priorities and thresholds, and what is left.
func TestLoad(t *testing.T) {
	each([]int{0, 1, 4, 7}, []int{0, 1, 6}, func(p api.Plic) {
		for _, at := range table {
			x, got, ok := Load(p, at.off, 4)
			wantX, want, _ := loadOf(p, at.off, 4)
			if x != wantX || !same(got, want) || !ok {
				t.Fatalf("Load(%s) of %s = %d, %s, %v, not %d, %s", tell(p), at.name, x, tell(got), ok, wantX, tell(want))
			}
		}
	})
}

// P10.3: Store, told number by number.
func TestStoreExamples(t *testing.T) {
	p := plicOf(3, 5, 2, 4, 2, 4, 1, 2)
	for _, e := range []struct {
		off  uint64
		x    uint64
		want api.Plic
	}{
		{0x4, 0, plicOf(0, 5, 2, 4, 2, 4, 1, 2)},
		{0x4, 7, plicOf(7, 5, 2, 4, 2, 4, 1, 2)},
		{0x4, 8, plicOf(0, 5, 2, 4, 2, 4, 1, 2)},
		{0x4, 9, plicOf(1, 5, 2, 4, 2, 4, 1, 2)},
		{0x4, ones, plicOf(7, 5, 2, 4, 2, 4, 1, 2)},
		{0x4, above, plicOf(0, 5, 2, 4, 2, 4, 1, 2)},
		{0x8, 7, plicOf(3, 7, 2, 4, 2, 4, 1, 2)},
		{0x8, 8, plicOf(3, 0, 2, 4, 2, 4, 1, 2)},
		{0x8, 9, plicOf(3, 1, 2, 4, 2, 4, 1, 2)},
		{0x8, ones, plicOf(3, 7, 2, 4, 2, 4, 1, 2)},
		{0x8, above + 6, plicOf(3, 6, 2, 4, 2, 4, 1, 2)},
		{0x1000, 0, p},
		{0x1000, 4, p},
		{0x1000, 6, p},
		{0x1000, ones, p},
		{0x2000, 0, plicOf(3, 5, 2, 4, 0, 4, 1, 2)},
		{0x2000, 1, plicOf(3, 5, 2, 4, 0, 4, 1, 2)},
		{0x2000, 7, plicOf(3, 5, 2, 4, 6, 4, 1, 2)},
		{0x2000, 8, plicOf(3, 5, 2, 4, 0, 4, 1, 2)},
		{0x2000, 9, plicOf(3, 5, 2, 4, 0, 4, 1, 2)},
		{0x2000, 13, plicOf(3, 5, 2, 4, 4, 4, 1, 2)},
		{0x2000, ones, plicOf(3, 5, 2, 4, 6, 4, 1, 2)},
		{0x2000, above, plicOf(3, 5, 2, 4, 0, 4, 1, 2)},
		{0x2080, 7, plicOf(3, 5, 2, 4, 2, 6, 1, 2)},
		{0x2080, 8, plicOf(3, 5, 2, 4, 2, 0, 1, 2)},
		{0x2080, 3, plicOf(3, 5, 2, 4, 2, 2, 1, 2)},
		{0x2080, ones, plicOf(3, 5, 2, 4, 2, 6, 1, 2)},
		{0x2080, above + 2, plicOf(3, 5, 2, 4, 2, 2, 1, 2)},
		{0x200000, 7, plicOf(3, 5, 2, 4, 2, 4, 7, 2)},
		{0x200000, 8, plicOf(3, 5, 2, 4, 2, 4, 0, 2)},
		{0x200000, 9, plicOf(3, 5, 2, 4, 2, 4, 1, 2)},
		{0x200000, ones, plicOf(3, 5, 2, 4, 2, 4, 7, 2)},
		{0x200000, above, plicOf(3, 5, 2, 4, 2, 4, 0, 2)},
		{0x201000, 7, plicOf(3, 5, 2, 4, 2, 4, 1, 7)},
		{0x201000, 8, plicOf(3, 5, 2, 4, 2, 4, 1, 0)},
		{0x201000, 9, plicOf(3, 5, 2, 4, 2, 4, 1, 1)},
		{0x201000, ones, plicOf(3, 5, 2, 4, 2, 4, 1, 7)},
		{0x201000, above + 3, plicOf(3, 5, 2, 4, 2, 4, 1, 3)},
		{0x200004, 2, p},
		{0x201004, 2, plicOf(3, 5, 2, 0, 2, 4, 1, 2)},
		{0x201004, above + 2, plicOf(3, 5, 2, 0, 2, 4, 1, 2)},
		{0x201004, above, p},
		{0x201004, ones, p},
	} {
		if got, ok := Store(p, e.off, 4, e.x); !same(got, e.want) || !ok {
			t.Errorf("Store(%#x, %#x) = %s, %v, not %s", e.off, e.x, tell(got), ok, tell(e.want))
		}
	}
}

// P10.3: what is left of some controllers when numbers with every bit, none, each one alone, and small ones are stored in each register.
func TestStore(t *testing.T) {
	xs := numbers()
	for _, p := range some() {
		for _, at := range table {
			for _, x := range xs {
				got, ok := Store(p, at.off, 4, x)
				if want, _ := storeOf(p, at.off, 4, x); !same(got, want) || !ok {
					t.Fatalf("Store(%s, %#x) of %s = %s, %v, not %s", tell(p), x, at.name, tell(got), ok, tell(want))
				}
			}
		}
	}
}

// P10.3: what is given back, told case by case: by a context that has it enabled alone, whether it was claimed or not.
func TestGiveBack(t *testing.T) {
	for _, e := range []struct {
		name    string
		claimed int
		enable  int
		x       uint64
		want    int
	}{
		{"1", 6, 6, 1, 4},
		{"2", 6, 6, 2, 2},
		{"1, enabled alone", 6, 2, 1, 4},
		{"2, enabled alone", 6, 4, 2, 2},
		{"1, not enabled", 6, 4, 1, 6},
		{"2, not enabled", 6, 2, 2, 6},
		{"1, none enabled", 6, 0, 1, 6},
		{"1, not claimed", 4, 6, 1, 4},
		{"2, not claimed", 2, 6, 2, 2},
		{"1, none claimed", 0, 6, 1, 0},
		{"0", 6, 6, 0, 6},
		{"3", 6, 6, 3, 6},
		{"4, which are 2's bits", 6, 6, 4, 6},
		{"6", 6, 6, 6, 6},
		{"31", 6, 6, 31, 6},
		{"33, which is 1 modulo 32", 6, 6, 33, 6},
		{"34, which is 2 modulo 32", 6, 6, 34, 6},
		{"65, which is 1 modulo 64", 6, 6, 65, 6},
		{"66, which is 2 modulo 64", 6, 6, 66, 6},
		{"257", 6, 6, 257, 6},
		{"1 << 31 + 1", 6, 6, 1<<31 + 1, 6},
		{"1 << 32 - 1", 6, 6, 1<<32 - 1, 6},
		{"1 << 32", 6, 6, 1 << 32, 6},
		{"1 << 32 + 1, which is 1 of the lowest 32 bits", 6, 6, 1<<32 + 1, 4},
		{"2 beside all bits above the lowest 32, which is 2 of the lowest 32 bits", 6, 6, above + 2, 2},
		{"all ones", 6, 6, ones, 6},
	} {
		for ctx, off := range []uint64{0x200004, 0x201004} {
			p := plicOf(3, 4, 0, e.claimed, 0, 0, 1, 2)
			p.Enable[ctx], p.Enable[1-ctx] = e.enable, 6-e.enable
			want := copyOf(p)
			want.Claimed = e.want
			if got, ok := Store(p, off, 4, e.x); !same(got, want) || !ok {
				t.Errorf("%s, context %d: %s, %v, not %s", e.name, ctx, tell(got), ok, tell(want))
			}
		}
	}
}

// P10.3: each place from 0 to behind the last one, with size 4: which there are, what is loaded, and what is left.
func TestPlaces(t *testing.T) {
	p := plicOf(3, 5, 6, 0, 2, 4, 1, 2)
	done := 0
	for off := range uint64(0x400010) {
		x, got, ok := Load(p, off, 4)
		left, stored := Store(p, off, 4, 6)
		if wantX, want, is := loadOf(p, off, 4); x != wantX || !same(got, want) || ok != is {
			t.Fatalf("Load(%#x) = %d, %s, %v, not %d, %s, %v", off, x, tell(got), ok, wantX, tell(want), is)
		}
		if want, is := storeOf(p, off, 4, 6); !same(left, want) || stored != is {
			t.Fatalf("Store(%#x) = %s, %v, not %s, %v", off, tell(left), stored, tell(want), is)
		}
		if ok && stored {
			done++
		}
	}
	if done != 9 {
		t.Errorf("%d places", done)
	}
}

// P10.3: places that there are not, with size 4, and those that there are, with sizes that there are not: 0, the controller as it was, and false.
func TestRefused(t *testing.T) {
	var refused []struct {
		off  uint64
		size int
	}
	for _, off := range beside() {
		for _, size := range append([]int{4}, sizes...) {
			refused = append(refused, struct {
				off  uint64
				size int
			}{off, size})
		}
	}
	for _, at := range table {
		for _, size := range sizes {
			refused = append(refused, struct {
				off  uint64
				size int
			}{at.off, size})
		}
	}
	for _, p := range some()[:5] {
		for _, r := range refused {
			if x, got, ok := Load(p, r.off, r.size); x != 0 || !same(got, p) || ok {
				t.Fatalf("Load(%s, %#x, %d) = %d, %s, %v", tell(p), r.off, r.size, x, tell(got), ok)
			}
			for _, x := range []uint64{0, 1, 2, ones} {
				if got, ok := Store(p, r.off, r.size, x); !same(got, p) || ok {
					t.Fatalf("Store(%s, %#x, %d, %#x) = %s, %v", tell(p), r.off, r.size, x, tell(got), ok)
				}
			}
		}
	}
}

// P10.3: what was stored is loaded, in the bits that are kept.
func TestStoredIsLoaded(t *testing.T) {
	for _, p := range some() {
		for _, off := range []uint64{0x4, 0x8, 0x200000, 0x201000, 0x2000, 0x2080} {
			for _, x := range numbers() {
				want := x % 8
				if off == 0x2000 || off == 0x2080 {
					want -= x % 2
				}
				left, _ := Store(p, off, 4, x)
				if got, _, ok := Load(left, off, 4); got != want || !ok {
					t.Fatalf("%#x with %#x: %d, not %d", off, x, got, want)
				}
			}
		}
	}
}
