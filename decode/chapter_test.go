package decode

import (
	"fmt"
	"math/rand"
	"strconv"
	"strings"
	"testing"

	"drawbridge/api"
)

// row is one instruction of the chapter's table. The head is the 32 bits of its words, from bit 31 on: 0 and 1 as they must be, d, s, t the registers rd, rs1, rs2, i the immediate's, - what is not looked at. The places say which of the immediate's bits its i are, as the chapter writes them.
type row struct {
	head   string
	places []int
	signed bool
	kind   api.Ins
}

// places answers the single numbers of a text as the chapter writes it: "12|10:5|4:1|11".
func places(text string) []int {
	var all []int
	if text == "" {
		return nil
	}
	for _, part := range strings.Split(text, "|") {
		from, to, ranged := strings.Cut(part, ":")
		if !ranged {
			to = from
		}
		first, _ := strconv.Atoi(from)
		last, _ := strconv.Atoi(to)
		for place := first; place >= last; place-- {
			all = append(all, place)
		}
	}
	return all
}

// bit answers what the head says of bit i of a word.
func (r row) bit(i int) byte { return r.head[31-i] }

// fits tells whether w is a word of this row.
func (r row) fits(w uint32) bool {
	for i := range 32 {
		if c := r.bit(i); c == '0' && w>>i&1 != 0 || c == '1' && w>>i&1 != 1 {
			return false
		}
	}
	return true
}

// number answers the bits of w that the head names by c, the highest first.
func (r row) number(w uint32, c byte) int {
	x := 0
	for i := 31; i >= 0; i-- {
		if r.bit(i) == c {
			x = x*2 + int(w>>i&1)
		}
	}
	return x
}

// imm answers the immediate of w.
func (r row) imm(w uint32) uint64 {
	x, n := int64(0), 0
	for i := 31; i >= 0; i-- {
		if r.bit(i) != 'i' {
			continue
		}
		worth := int64(1) << r.places[n]
		if n == 0 && r.signed {
			worth = -worth
		}
		x += worth * int64(w>>i&1)
		n++
	}
	return uint64(x)
}

// take answers w, a word of this row, taken apart.
func (r row) take(w uint32) api.Ins {
	i := r.kind
	i.Rd, i.Rs1, i.Rs2 = r.number(w, 'd'), r.number(w, 's'), r.number(w, 't')
	i.Imm = r.imm(w)
	return i
}

// seen answers w without the bits that are not looked at.
func (r row) seen(w uint32) uint32 {
	for i := range 32 {
		if r.bit(i) == '-' {
			w &^= 1 << i
		}
	}
	return w
}

// may tells whether x may be the immediate of this row.
func (r row) may(x uint64) bool {
	if len(r.places) == 0 {
		return x == 0
	}
	least := r.places[0]
	for _, p := range r.places {
		least = min(least, p)
	}
	low, end := int64(0), int64(1)<<(r.places[0]+1)
	if r.signed {
		low, end = -end/2, end/2
	}
	return int64(x) >= low && int64(x) < end && x%(1<<least) == 0
}

// register tells whether x may be the register that the head names by c.
func (r row) register(x int, c byte) bool {
	if strings.IndexByte(r.head, c) < 0 {
		return x == 0
	}
	return x >= 0 && x <= 31
}

// put answers i's word, if i is of this row.
func (r row) put(i api.Ins) (uint32, bool) {
	kind := api.Ins{Class: i.Class, F: i.F, Word: i.Word}
	if kind != r.kind || !r.may(i.Imm) || !r.register(i.Rd, 'd') || !r.register(i.Rs1, 's') || !r.register(i.Rs2, 't') {
		return 0, false
	}
	w, n := uint32(0), 0
	rd, rs1, rs2 := i.Rd, i.Rs1, i.Rs2
	for b := range 32 {
		one := 0
		switch r.bit(b) {
		case '1':
			one = 1
		case 'd':
			one, rd = rd%2, rd/2
		case 's':
			one, rs1 = rs1%2, rs1/2
		case 't':
			one, rs2 = rs2%2, rs2/2
		case 'i':
			n++
			one = int(i.Imm >> r.places[len(r.places)-n] & 1)
		}
		w |= uint32(one) << b
	}
	return w, true
}

// book is all rows.
type book struct{ rows []row }

// one notes an instruction.
func (b *book) one(head string, imm string, signed bool, kind api.Ins) {
	b.rows = append(b.rows, row{strings.ReplaceAll(head, " ", ""), places(imm), signed, kind})
}

// each notes an instruction for each f, which stands in the head for bits 14-12.
func (b *book) each(head string, imm string, signed bool, kind api.Ins, fs ...int) {
	for _, f := range fs {
		kind.F = f
		b.one(fmt.Sprintf(head, f), imm, signed, kind)
	}
}

// chapter answers the chapter's table.
func chapter() []row {
	b := &book{}
	b.one("iiiiiiiiiiiiiiiiiiii ddddd 0110111", "31:12", true, api.Ins{Class: api.Lui})
	b.one("iiiiiiiiiiiiiiiiiiii ddddd 0010111", "31:12", true, api.Ins{Class: api.Auipc})
	b.one("iiiiiiiiiiiiiiiiiiii ddddd 1101111", "20|10:1|11|19:12", true, api.Ins{Class: api.Jal})
	b.one("iiiiiiiiiiii sssss 000 ddddd 1100111", "11:0", true, api.Ins{Class: api.Jalr})
	b.each("iiiiiii ttttt sssss %03b iiiii 1100011", "12|10:5|4:1|11", true, api.Ins{Class: api.Branch}, 0, 1, 4, 5, 6, 7)
	b.each("iiiiiiiiiiii sssss %03b ddddd 0000011", "11:0", true, api.Ins{Class: api.Load}, 0, 1, 2, 3, 4, 5, 6)
	b.each("iiiiiii ttttt sssss %03b iiiii 0100011", "11:5|4:0", true, api.Ins{Class: api.Store}, 0, 1, 2, 3)
	b.each("----------------- %03b ----- 0001111", "", false, api.Ins{Class: api.Fence}, 0, 1)
	b.each("iiiiiiiiiiii sssss %03b ddddd 1110011", "11:0", false, api.Ins{Class: api.Csr}, 1, 2, 3, 5, 6, 7)
	for f, w := range []uint32{0x00000073, 0x00100073, 0x10200073, 0x30200073, 0x10500073} {
		b.one(fmt.Sprintf("%032b", w), "", false, api.Ins{Class: api.System, F: f})
	}
	b.one("0001001 ttttt sssss 000 00000 1110011", "", false, api.Ins{Class: api.System, F: 5})
	b.immediates()
	b.registers()
	b.atomics()
	return b.rows
}

// immediates notes what reckons with an immediate. How far something is shifted has no sign.
func (b *book) immediates() {
	long, word := api.Ins{Class: api.AluImm}, api.Ins{Class: api.AluImm, Word: true}
	b.each("iiiiiiiiiiii sssss %03b ddddd 0010011", "11:0", true, long, 0, 2, 3, 4, 6, 7)
	b.each("000000 iiiiii sssss %03b ddddd 0010011", "5:0", false, long, 1, 5)
	b.each("iiiiiiiiiiii sssss %03b ddddd 0011011", "11:0", true, word, 0)
	b.each("0000000 iiiii sssss %03b ddddd 0011011", "4:0", false, word, 1, 5)
	long.F, word.F = 13, 13
	b.one("010000 iiiiii sssss 101 ddddd 0010011", "5:0", false, long)
	b.one("0100000 iiiii sssss 101 ddddd 0011011", "4:0", false, word)
}

// registers notes what reckons with two registers.
func (b *book) registers() {
	some := func(g int, op string, more int, word bool, fs ...int) {
		for _, f := range fs {
			head := fmt.Sprintf("%07b ttttt sssss %03b ddddd %s", g, f, op)
			b.one(head, "", false, api.Ins{Class: api.Alu, F: f + more, Word: word})
		}
	}
	some(0, "0110011", 0, false, 0, 1, 2, 3, 4, 5, 6, 7)
	some(32, "0110011", 8, false, 0, 5)
	some(1, "0110011", 16, false, 0, 1, 2, 3, 4, 5, 6, 7)
	some(0, "0111011", 0, true, 0, 1, 5)
	some(32, "0111011", 8, true, 0, 5)
	some(1, "0111011", 16, true, 0, 4, 5, 6, 7)
}

// atomics notes what is done in memory at once.
func (b *book) atomics() {
	for _, which := range []int{0, 1, 2, 3, 4, 8, 12, 16, 20, 24, 28} {
		rs2 := "ttttt"
		if which == 2 {
			rs2 = "00000"
		}
		kind := api.Ins{Class: api.Amo, F: which, Word: true}
		b.one(fmt.Sprintf("%05b -- %s sssss 010 ddddd 0101111", which, rs2), "", false, kind)
		kind.Word = false
		b.one(fmt.Sprintf("%05b -- %s sssss 011 ddddd 0101111", which, rs2), "", false, kind)
	}
}

// words answers words of this row: what may be another all noughts, all ones, each bit of it alone, each bit missing, and as chance would have it, the same each time.
func (r row) words() []uint32 {
	fixed, free := uint32(0), uint32(0)
	for i := range 32 {
		switch r.bit(i) {
		case '0':
		case '1':
			fixed |= 1 << i
		default:
			free |= 1 << i
		}
	}
	all := []uint32{fixed, fixed | free}
	for i := range 32 {
		one := uint32(1) << i & free
		all = append(all, fixed|one, fixed|free&^one)
	}
	chance := rand.New(rand.NewSource(3))
	for range 500 {
		all = append(all, fixed|chance.Uint32()&free)
	}
	return all
}

// byOp answers the rows by bits 6-0 of their words.
func byOp(rows []row) [128][]row {
	var ops [128][]row
	for _, r := range rows {
		op, _ := strconv.ParseUint(r.head[25:], 2, 7)
		ops[op] = append(ops[op], r)
	}
	return ops
}

// decoded answers what Decode has to answer of w, by the rows of its bits 6-0.
func decoded(rows []row, w uint32) (api.Ins, bool) {
	for _, r := range rows {
		if r.fits(w) {
			return r.take(w), true
		}
	}
	return api.Ins{}, false
}

// encoded answers what Encode has to answer of i.
func encoded(rows []row, i api.Ins) (uint32, bool) {
	for _, r := range rows {
		if w, ok := r.put(i); ok {
			return w, true
		}
	}
	return 0, false
}

// The table of the tests is one: a head has 32 bits, an i for each place, and no word is of two rows.
func TestChapter(t *testing.T) {
	rows := chapter()
	for n, r := range rows {
		if len(r.head) != 32 || strings.Count(r.head, "i") != len(r.places) {
			t.Errorf("%s has %d bits, and %d places", r.head, len(r.head), len(r.places))
		}
		for _, other := range rows[:n] {
			if !apart(r.head, other.head) {
				t.Errorf("%s and %s have words that are alike", r.head, other.head)
			}
			if r.kind == other.kind {
				t.Errorf("%s and %s are one instruction", r.head, other.head)
			}
		}
	}
}

// apart tells whether two heads have a bit that must be 0 in one and 1 in the other.
func apart(a string, b string) bool {
	for i := range len(a) {
		if a[i] == '0' && b[i] == '1' || a[i] == '1' && b[i] == '0' {
			return true
		}
	}
	return false
}
