package plic

import (
	"testing"

	"drawbridge/api"
)

// claims are where the contexts claim.
var claims = [2]uint64{0x200004, 0x201004}

// ready answers a controller that tells both sources to both contexts, 2 ahead of 1.
func ready(t *testing.T) api.Plic {
	t.Helper()
	p := New()
	for _, s := range []struct{ off, x uint64 }{{0x4, 3}, {0x8, 5}, {0x2000, 6}, {0x2080, 6}} {
		left, ok := Store(p, s.off, 4, s.x)
		if !ok {
			t.Fatalf("Store(%#x)", s.off)
		}
		p = left
	}
	return p
}

// claimed answers the controller behind a claim of a context, which has to answer want.
func claimed(t *testing.T, p api.Plic, ctx int, want uint64) api.Plic {
	t.Helper()
	x, left, ok := Load(p, claims[ctx], 4)
	if x != want || !ok {
		t.Fatalf("claim of %d in %s = %d, %v, not %d", ctx, tell(p), x, ok, want)
	}
	return left
}

// back answers the controller behind a source's return by a context.
func back(t *testing.T, p api.Plic, ctx int, x uint64) api.Plic {
	t.Helper()
	left, ok := Store(p, claims[ctx], 4, x)
	if !ok {
		t.Fatalf("return of %d by %d in %s", x, ctx, tell(p))
	}
	return left
}

// tells fails unless that is told to both contexts.
func tells(t *testing.T, p api.Plic, first int, second int) {
	t.Helper()
	if a, b := Best(p, 0), Best(p, 1); a != first || b != second {
		t.Fatalf("of %s %d and %d are told, not %d and %d", tell(p), a, b, first, second)
	}
}

// P10.3, P10.4: what is claimed by a context, and what is told behind it, in both of them.
func TestClaim(t *testing.T) {
	for ctx := range 2 {
		p := Set(ready(t), 6)
		tells(t, p, 2, 2)
		p = claimed(t, p, ctx, 2)
		if !same(p, plicOf(3, 5, 2, 4, 6, 6, 0, 0)) {
			t.Errorf("behind the first claim: %s", tell(p))
		}
		tells(t, p, 1, 1)
		p = claimed(t, p, 1-ctx, 1)
		if !same(p, plicOf(3, 5, 0, 6, 6, 6, 0, 0)) {
			t.Errorf("behind the second claim: %s", tell(p))
		}
		tells(t, p, 0, 0)
		p = claimed(t, p, ctx, 0)
		if !same(p, plicOf(3, 5, 0, 6, 6, 6, 0, 0)) {
			t.Errorf("behind a claim of nothing: %s", tell(p))
		}
	}
}

// P10.4: what is claimed is not told again while its line is up, nor when it is given back and its line is down; but when both are so.
func TestNotToldAgain(t *testing.T) {
	for ctx := range 2 {
		p := claimed(t, Set(ready(t), 2), ctx, 1)
		tells(t, p, 0, 0)
		p = Set(p, 2)
		tells(t, p, 0, 0)
		p = claimed(t, p, ctx, 0)
		p = claimed(t, p, 1-ctx, 0)

		p = back(t, p, ctx, 1)
		tells(t, p, 0, 0)
		p = Set(p, 0)
		tells(t, p, 0, 0)
		p = Set(p, 4)
		tells(t, p, 2, 2)
		p = Set(p, 2)
		p = claimed(t, p, ctx, 2)
		tells(t, p, 1, 1)
		claimed(t, p, 1-ctx, 1)
	}
}

// P10.4: a line that was up stays told when it is down, until it is claimed.
func TestPendingStays(t *testing.T) {
	p := Set(Set(ready(t), 2), 0)
	tells(t, p, 1, 1)
	p = Set(claimed(t, p, 0, 1), 0)
	tells(t, p, 0, 0)
	p = back(t, p, 0, 1)
	tells(t, p, 0, 0)
}

// P10.4: one is claimed alone: the other one is told, claimed and given back as ever.
func TestOneClaimed(t *testing.T) {
	p := claimed(t, Set(ready(t), 4), 0, 2)
	for range 3 {
		p = claimed(t, Set(p, 6), 1, 1)
		p = back(t, p, 1, 1)
	}
	tells(t, p, 0, 0)
	tells(t, Set(back(t, p, 0, 2), 6), 2, 2)
}

// P10.3, P10.4: one that a context has not enabled it does not give back, but the other one does.
func TestGivenBackByAnother(t *testing.T) {
	p := claimed(t, Set(ready(t), 6), 0, 2)
	p, _ = Store(p, 0x2080, 4, 2)
	p = Set(back(t, p, 1, 2), 6)
	tells(t, p, 1, 1)
	p = Set(back(t, p, 0, 2), 6)
	tells(t, p, 2, 1)

	p = claimed(t, p, 0, 2)
	p, _ = Store(p, 0x2080, 4, 4)
	tells(t, Set(back(t, p, 1, 2), 6), 2, 2)
}

// P10.2, P10.3: what is stored of priorities, thresholds and of what is enabled is what is told next.
func TestStoredIsTold(t *testing.T) {
	p := Set(ready(t), 6)
	for _, s := range []struct {
		off, x        uint64
		first, second int
	}{
		{0x4, 5, 1, 1},
		{0x4, 4, 2, 2},
		{0x200000, 4, 2, 2},
		{0x200000, 5, 0, 2},
		{0x201000, 7, 0, 0},
		{0x8, 7, 2, 0},
		{0x201000, 6, 2, 2},
		{0x2000, 2, 0, 2},
		{0x200000, 3, 1, 2},
		{0x2080, 0, 1, 0},
		{0x4, 0, 0, 0},
		{0x2000, 4, 2, 0},
		{0x2080, 4, 2, 2},
	} {
		left, ok := Store(p, s.off, 4, s.x)
		if !ok {
			t.Fatalf("Store(%#x)", s.off)
		}
		p = left
		tells(t, p, s.first, s.second)
	}
}

// step is one call, as chance would have it: on what the program and the model have made each.
func step(t *testing.T, next func() int, p api.Plic, model api.Plic) (api.Plic, api.Plic) {
	t.Helper()
	at, x := table[next()%len(table)], uint64(next()%8)
	off, size := at.off, 4
	switch next() % 20 {
	case 0:
		size = sizes[next()%len(sizes)]
	case 1:
		off = uint64(next())
	case 2:
		x = uint64(next())
	}
	switch next() % 5 {
	case 0, 1:
		lines := next() % 16
		return Set(p, lines), setOf(model, lines)
	case 2, 3:
		got, left, ok := Load(p, off, size)
		want, modelLeft, is := loadOf(model, off, size)
		if got != want || ok != is {
			t.Fatalf("Load(%s, %#x, %d) = %d, %v, not %d, %v", tell(p), off, size, got, ok, want, is)
		}
		return left, modelLeft
	}
	left, ok := Store(p, off, size, x)
	modelLeft, is := storeOf(model, off, size, x)
	if ok != is {
		t.Fatalf("Store(%s, %#x, %d, %#x) = %v", tell(p), off, size, x, ok)
	}
	return left, modelLeft
}

// P10.1 to P10.4: many calls, one behind the other: the controller is each time what the chapter makes of it, may be, and has none that is both pending and claimed.
func TestManyCalls(t *testing.T) {
	next := chance()
	p, model := New(), New()
	for n := range 300000 {
		if n%1000 == 0 {
			p, model = New(), New()
		}
		p, model = step(t, next, p, model)
		if !same(p, model) {
			t.Fatalf("step %d: %s, not %s", n, tell(p), tell(model))
		}
		if !Check(p) || p.Pending&p.Claimed != 0 {
			t.Fatalf("step %d leads to %s", n, tell(p))
		}
		for ctx := -1; ctx < 3; ctx++ {
			if got, want := Best(p, ctx), bestOf(model, ctx); got != want {
				t.Fatalf("step %d: of %s %d is told to %d, not %d", n, tell(p), got, ctx, want)
			}
		}
	}
}

// P10.4: whatever the calls, a source that a claim has told is told by none until it is given back and, behind that, a line of it is up.
func TestNeverToldTwice(t *testing.T) {
	next := chance()
	p := ready(t)
	var held, heard [3]bool // claimed and not given back; its line was up since
	told := 0
	for n := range 200000 {
		ctx := next() % 2
		switch next() % 4 {
		case 0:
			lines := next() % 8
			p = Set(p, lines)
			for s := 1; s < 3; s++ {
				heard[s] = heard[s] || has(lines, s) && !held[s]
			}
		case 1:
			s := next() % 3
			p = back(t, p, ctx, uint64(s))
			if has(p.Enable[ctx], s) {
				held[s] = false
			}
		case 2:
			p, _ = Store(p, []uint64{0x2000, 0x2080}[ctx], 4, uint64(next()%8))
		case 3:
			x, left, _ := Load(p, claims[ctx], 4)
			if x != 0 && (held[x] || !heard[x]) {
				t.Fatalf("step %d: %d is told of %s", n, x, tell(p))
			}
			if x != 0 {
				held[x], heard[x] = true, false
				told++
			}
			p = left
		}
	}
	if told < 1000 {
		t.Errorf("just %d were told", told)
	}
}
