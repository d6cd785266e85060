package sum

import (
	"bytes"
	"math"
	"slices"
	"testing"
)

// marker stands in the room before a text and behind its end.
const (
	marker = 0x77
	room   = 40
)

// roomy answers a text like b, with room before it and behind its end, and all that it lies in.
func roomy(b []byte) ([]byte, []byte) {
	edge := bytes.Repeat([]byte{marker}, room)
	all := slices.Concat(edge, b, edge)
	return all[room : room+len(b)], all
}

// scribble overwrites a list, and the room behind its end.
func scribble(b []byte) {
	all := b[:cap(b)]
	for i := range all {
		all[i] ^= 0xff
	}
}

// R3, R7: no call changes what is handed in, or what lies about it, and nothing of that counts.
func TestHandedInStays(t *testing.T) {
	for _, was := range texts() {
		b, all := roomy(was)
		want := slices.Clone(all)
		if got := Sum(b); got != sumOf(was) {
			t.Fatalf("Sum(% x) with room behind: %#x", was, got)
		}
		if got := Right(b); got != (sumOf(was) == 0) {
			t.Fatalf("Right(% x) with room behind: %v", was, got)
		}
		for _, at := range places(was) {
			if got := Patch(b, at); !bytes.Equal(got, patchOf(was, at)) {
				t.Fatalf("Patch(% x, %d) with room behind: % x", was, at, got)
			}
		}
		if !bytes.Equal(all, want) {
			t.Fatalf("% x was % x", all, want)
		}
	}
}

// R3: what Patch answers is new memory, where it is like what was handed in, too: neither reaches the other.
func TestPatchUnshared(t *testing.T) {
	for _, was := range texts() {
		for _, at := range places(was) {
			b, all := roomy(was)
			before := slices.Clone(all)
			got := Patch(b, at)
			want := slices.Clone(got)
			scribble(all)
			if !bytes.Equal(got, want) {
				t.Fatalf("Patch(% x, %d) goes with what was handed in", was, at)
			}
			scribble(all)
			scribble(got)
			if !bytes.Equal(all, before) {
				t.Fatalf("what Patch(% x, %d) answers reaches what was handed in", was, at)
			}
		}
	}
}

// R3: what Patch makes of its own answer is new memory, too.
func TestPatchOfPatched(t *testing.T) {
	for _, b := range texts() {
		for _, at := range []int{0, 2, 1, -2, len(b)} {
			once := Patch(b, at)
			twice := Patch(once, at)
			want := slices.Clone(once)
			scribble(twice)
			if !bytes.Equal(once, want) {
				t.Fatalf("Patch(% x, %d) shares with its own answer", b, at)
			}
		}
	}
}

// R3, R4: what was answered stays when later calls are made, and when what they answer is overwritten.
func TestAnswersStay(t *testing.T) {
	b := []byte{1, 2, 3, 4, 5, 6}
	patched, like := Patch(b, 2), Patch(b, 3)
	head := Pseudo(1, 2, 3, 4)
	wantPatched, wantLike, wantHead := slices.Clone(patched), slices.Clone(like), slices.Clone(head)
	for at := -4; at < 10; at++ {
		scribble(Patch(b, at))
		scribble(Patch([]byte{9, 8, 7, 6, 5, 4}, at))
		scribble(Pseudo(1, 2, 3, 4))
		scribble(Pseudo(math.MaxUint32, math.MaxUint32, at, at))
	}
	if !bytes.Equal(patched, wantPatched) || !bytes.Equal(like, wantLike) || !bytes.Equal(head, wantHead) {
		t.Errorf("% x, % x, % x", patched, like, head)
	}
	if got := Pseudo(1, 2, 3, 4); !bytes.Equal(got, wantHead) {
		t.Errorf("Pseudo again: % x", got)
	}
	// What is put behind an answer reaches no other.
	_ = append(head, 1, 2, 3)
	if got := Pseudo(1, 2, 3, 4); !bytes.Equal(got, wantHead) {
		t.Errorf("Pseudo behind an append: % x", got)
	}
}

// R1, R3, R4: no call panics, at whatever it is given, nil and empty lists are the same, and the same call answers the same.
func TestSameAgain(t *testing.T) {
	if Sum(nil) != Sum([]byte{}) || Right(nil) != Right([]byte{}) {
		t.Error("nil and empty lists are not the same")
	}
	for _, at := range append(far, 0, 1, 2) {
		if len(Patch(nil, at)) != 0 || len(Patch([]byte{}, at)) != 0 {
			t.Errorf("Patch of nothing at %d", at)
		}
	}
	next := chance()
	for range 5000 {
		b, at := text(int(next()>>30%64), next), int(next())
		if next()>>20%4 != 0 {
			at = int(next()>>30%70) - 3
		}
		src, dst, proto, n := uint32(next()), uint32(next()), int(next()), int(next())
		sum, right, patched, head := Sum(b), Right(b), Patch(b, at), Pseudo(src, dst, proto, n)
		if Sum(b) != sum || Right(b) != right || !bytes.Equal(Patch(b, at), patched) || !bytes.Equal(Pseudo(src, dst, proto, n), head) {
			t.Fatalf("of % x at %d, or %#x, %#x, %d, %d: another answer", b, at, src, dst, proto, n)
		}
	}
}
