package decode

import (
	"math"
	"testing"

	"drawbridge/api"
)

// check holds Encode of i against the chapter's table.
func check(t *testing.T, rows []row, i api.Ins) {
	t.Helper()
	want, is := encoded(rows, i)
	if got, ok := Encode(i); got != want || ok != is {
		t.Errorf("Encode(%+v) = %#08x, %v, not %#08x, %v", i, got, ok, want, is)
	}
}

// P3.2 and P3.3: instructions of each row; bits that are not looked at are noughts, and all else is there again.
func TestEncodeRows(t *testing.T) {
	for _, r := range chapter() {
		for _, w := range r.words() {
			if got, ok := Encode(r.take(w)); got != r.seen(w) || !ok {
				t.Fatalf("Encode(%+v) = %#08x, %v, not %#08x", r.take(w), got, ok, r.seen(w))
			}
		}
	}
}

// P3.2: each F of each class, and of classes that there are not.
func TestEncodeKinds(t *testing.T) {
	rows := chapter()
	fs := []int{math.MinInt, math.MinInt32, 64, 128, 256, 1 << 20, 1 << 32, 1<<32 + 5, math.MaxInt}
	for f := -40; f <= 40; f++ {
		fs = append(fs, f)
	}
	classes := []api.Class{math.MinInt, 32, 64 + 1, 256 + 8, 1<<32 + 8, math.MaxInt}
	for class := api.Class(-3); class <= 17; class++ {
		classes = append(classes, class)
	}
	for _, class := range classes {
		for _, f := range fs {
			check(t, rows, made(class, f, 0, 0, 0, 0))
			check(t, rows, onWord(class, f, 0, 0, 0, 0))
			check(t, rows, made(class, f, 1, 2, 3, 4))
			check(t, rows, onWord(class, f, 1, 2, 0, 0))
		}
	}
}

// numbers are immediates about all ends that there are, and odd ones.
func numbers() []uint64 {
	var all []uint64
	for place := range 64 {
		for _, near := range []int64{-4097, -4096, -4095, -3, -2, -1, 0, 1, 2, 3, 4095, 4096, 4097} {
			x := int64(1)<<place + near
			all = append(all, uint64(x), uint64(-x))
		}
	}
	return all
}

// P3.2: an immediate within its ends and past them, even and odd, of those that have none, too.
func TestEncodeImmediates(t *testing.T) {
	rows, xs := chapter(), numbers()
	for _, r := range rows {
		i := r.take(r.words()[0])
		for _, i.Imm = range xs {
			check(t, rows, i)
		}
	}
}

// P3.2: registers from 0 to 31 and past them, and where the row names none.
func TestEncodeRegisters(t *testing.T) {
	rows := chapter()
	registers := []int{math.MinInt, math.MinInt32, -33, -32, -31, -1, 32, 33, 63, 64, 128, 1 << 20, 1 << 32, 1<<32 + 1, 1 << 58, math.MaxInt}
	for x := range 32 {
		registers = append(registers, x)
	}
	for _, r := range rows {
		bare := r.take(r.words()[0])
		for _, x := range registers {
			for _, field := range []*int{&bare.Rd, &bare.Rs1, &bare.Rs2} {
				before := *field
				*field = x
				check(t, rows, bare)
				*field = before
			}
		}
	}
}

// P3.2: on 32 bits there is just what a row has there.
func TestEncodeWord(t *testing.T) {
	rows := chapter()
	for _, r := range rows {
		for _, w := range r.words() {
			i := r.take(w)
			i.Word = !i.Word
			check(t, rows, i)
		}
	}
}

// P3.2 and R6: what is no instruction: 0, false.
func TestEncodeNone(t *testing.T) {
	for _, i := range []api.Ins{
		{},
		made(0, 0, 1, 0, 0, 5),
		made(14, 0, 1, 0, 0, 5),
		made(-1, 0, 1, 0, 0, 5),
		made(api.Lui, 0, 32, 0, 0, 0),
		made(api.Lui, 0, 1, 0, 0, 1),          // not twelve noughts
		made(api.Lui, 0, 1, 0, 0, 0x80000000), // past the greatest: the sign is missing
		made(api.Lui, 1, 1, 0, 0, 0),
		onWord(api.Lui, 0, 1, 0, 0, 0),
		made(api.Jal, 0, 1, 0, 0, 3),
		made(api.Jal, 0, 1, 0, 0, 1<<20),
		made(api.Jal, 0, 1, 0, 0, -1<<20-2),
		made(api.Jal, 0, 1, 1, 0, 0),
		made(api.Jalr, 0, 1, 0, 1, 0),
		made(api.Branch, 0, 0, 1, 2, 4096),
		made(api.Branch, 0, 0, 1, 2, -4098),
		made(api.Branch, 0, 0, 1, 2, 5),
		made(api.Branch, 0, 1, 1, 2, 4),
		made(api.Branch, 2, 0, 1, 2, 4),
		made(api.Load, 7, 1, 2, 0, 4),
		made(api.Load, 2, 1, 2, 0, 2048),
		made(api.Store, 4, 0, 1, 2, 4),
		made(api.Store, 2, 0, 1, 2, -2049),
		made(api.Store, 2, 3, 1, 2, 0),
		made(api.AluImm, api.Add, 1, 2, 0, 0xfff), // as bits it would go, but not as a number
		made(api.AluImm, api.Sub, 1, 2, 0, 1),
		made(api.AluImm, api.Mul, 1, 2, 0, 1),
		made(api.AluImm, api.Sll, 1, 2, 0, 64),
		made(api.AluImm, api.Srl, 1, 2, 0, 1024),
		made(api.AluImm, api.Sra, 1, 2, 0, 1024),
		made(api.AluImm, api.Add, 1, 2, 3, 1),
		onWord(api.AluImm, api.Sll, 1, 2, 0, 32),
		onWord(api.AluImm, api.Xor, 1, 2, 0, 1),
		made(api.Alu, 9, 1, 2, 3, 0),
		made(api.Alu, 24, 1, 2, 3, 0),
		made(api.Alu, api.Add, 1, 2, 3, 4),
		made(api.Alu, api.Add, -1, 2, 3, 0),
		onWord(api.Alu, api.Slt, 1, 2, 3, 0),
		onWord(api.Alu, 17, 1, 2, 3, 0),
		made(api.Fence, 2, 0, 0, 0, 0),
		made(api.Fence, 0, 1, 0, 0, 0),
		made(api.Fence, 0, 0, 0, 0, 0xff),
		made(api.System, 6, 0, 0, 0, 0),
		made(api.System, api.Ebreak, 0, 0, 1, 0),
		made(api.System, api.Ebreak, 0, 0, 0, 1),
		made(api.System, api.Sfence, 1, 0, 0, 0),
		made(api.System, api.Sfence, 0, 0, 0, 9),
		made(api.Csr, 0, 1, 2, 0, 0x300),
		made(api.Csr, 4, 1, 2, 0, 0x300),
		made(api.Csr, 1, 1, 2, 0, 4096),
		made(api.Csr, 1, 1, 2, 0, -1),
		made(api.Csr, 1, 1, 2, 3, 0x300),
		made(api.Amo, 2, 1, 2, 3, 0),
		made(api.Amo, 5, 1, 2, 3, 0),
		made(api.Amo, 32, 1, 2, 3, 0),
		made(api.Amo, 1, 1, 2, 3, 1),
	} {
		if got, ok := Encode(i); ok || got != 0 {
			t.Errorf("Encode(%+v) = %#08x, %v, not 0, false", i, got, ok)
		}
	}
}

// P3.3: there and back, of words with each of bits 6-0, and what is not looked at noughts.
func TestThereAndBack(t *testing.T) {
	ops := byOp(chapter())
	some := 0
	for head := range uint32(1 << 22) {
		// An odd factor scatters the words over all that there are.
		w := head*2654435761&^0x7f | head&0x7f
		i, ok := Decode(w)
		if !ok {
			continue
		}
		some++
		back, ok := Encode(i)
		again, is := Decode(back)
		if !ok || !is || again != i {
			t.Fatalf("Decode of Encode(%+v) = %+v, %v, %v", i, again, is, ok)
		}
		for _, r := range ops[w&0x7f] {
			if r.fits(w) && back != r.seen(w) {
				t.Fatalf("Encode of Decode(%#08x) = %#08x, not %#08x", w, back, r.seen(w))
			}
		}
	}
	if some == 0 {
		t.Error("nothing is taken apart")
	}
}
