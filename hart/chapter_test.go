package hart

import (
	"slices"

	"drawbridge/alu"
	"drawbridge/api"
	"drawbridge/bus"
	"drawbridge/csr"
	"drawbridge/decode"
	"drawbridge/ram"
	"drawbridge/rvc"
	"drawbridge/sv39"
	"drawbridge/trap"
)

// fault is a trap; nil where there is none.
type fault struct {
	cause int
	tval  uint64
}

// checkOf answers what Check has to answer.
func checkOf(h api.Hart) bool {
	if len(h.X) != 32 || h.X[0] != 0 || h.Pc&1 != 0 {
		return false
	}
	return slices.Contains([]int{0, 1, 3}, h.Priv) && csr.Check(h.Csr)
}

// stepOf answers what Step has to answer. It has no panics: each part tells its fault, and nothing is done behind one.
func stepOf(s scene) scene {
	if !checkOf(s.h) {
		return s
	}
	s = s.clone()
	s.h.Csr.Cycle += 1
	up := uint64(0)
	s.b, up = bus.Lines(s.b)
	for _, line := range []uint64{3, 7, 9, 11} {
		s.h.Csr.Mip &= ^(1 << line)
		s.h.Csr.Mip |= up & (1 << line)
	}
	line, comes := trap.Pending(s.h.Csr, s.h.Priv)
	if comes {
		s.h.Csr, s.h.Priv, s.h.Pc = trap.Enter(s.h.Csr, s.h.Priv, s.h.Pc, line, true, 0)
	}
	if s.h.Wait && !comes && s.h.Csr.Mip&s.h.Csr.Mie == 0 {
		return s
	}
	s.h.Wait = false
	pc := s.h.Pc
	if f := s.oneOf(); f != nil {
		s.h.Csr, s.h.Priv, s.h.Pc = trap.Enter(s.h.Csr, s.h.Priv, pc, f.cause, false, f.tval)
	}
	return s
}

// runOf answers what Run has to answer.
func runOf(s scene, n int) scene {
	for i := 0; i < n && i < 10000; i++ {
		s = stepOf(s)
	}
	return s
}

// leadsOf answers where an address leads.
func (s *scene) leadsOf(at uint64, kind int, priv int) (uint64, *fault) {
	place, r, cause, ok := sv39.Translate(s.b.Ram, s.h.Csr.Satp, s.h.Csr.Status, priv, at, kind)
	s.b.Ram = r
	if !ok {
		return 0, &fault{cause, at}
	}
	return place, nil
}

// twoOf answers two bytes of an instruction.
func (s *scene) twoOf(at uint64) (uint64, *fault) {
	place, f := s.leadsOf(at, 0, s.h.Priv)
	if f != nil {
		return 0, f
	}
	b, ok := ram.Bytes(s.b.Ram, place, 2)
	if !ok {
		return 0, &fault{1, at}
	}
	return uint64(b[0]) + 256*uint64(b[1]), nil
}

// oneOf does an instruction.
func (s *scene) oneOf() *fault {
	word, f := s.twoOf(s.h.Pc)
	if f != nil {
		return f
	}
	long, size, ok := uint32(0), uint64(2), false
	if word%4 != 3 {
		long, ok = rvc.Expand(uint16(word))
	} else {
		upper, f := s.twoOf(s.h.Pc + 2)
		if f != nil {
			return f
		}
		word += 65536 * upper
		long, size, ok = uint32(word), 4, true
	}
	i, is := decode.Decode(long)
	if !ok || !is {
		return &fault{2, word}
	}
	return s.doOf(i, word, size)
}

// doOf does an instruction that was fetched.
func (s *scene) doOf(i api.Ins, word uint64, size uint64) *fault {
	a, b, d := s.h.X[i.Rs1], s.h.X[i.Rs2], s.h.X[i.Rd]
	pc := s.h.Pc
	to := pc + size
	var f *fault
	switch i.Class {
	case api.Lui:
		d = i.Imm
	case api.Auipc:
		d = pc + i.Imm
	case api.Jal:
		d, to = to, pc+i.Imm
	case api.Jalr:
		d, to = to, (a+i.Imm)/2*2
	case api.Branch:
		if alu.Cond(i.F, a, b) {
			to = pc + i.Imm
		}
	case api.AluImm:
		d = alu.Do(i.F, i.Word, a, i.Imm)
	case api.Alu:
		d = alu.Do(i.F, i.Word, a, b)
	case api.Load:
		d, f = s.loadOf(i, a+i.Imm)
	case api.Store:
		f = s.storeOf(i, a+i.Imm, b)
	case api.Amo:
		d, f = s.amoOf(i, a, b)
	case api.Csr:
		d, f = s.csrOf(i, a, word)
	case api.System:
		to, f = s.systemOf(i, to, word)
	}
	if f != nil {
		return f
	}
	if i.Rd > 0 && i.Class != api.Branch && i.Class != api.Store {
		s.h.X[i.Rd] = d
	}
	s.h.Pc = to
	return nil
}

// otherOf answers the privilege with which is loaded and stored.
func (s *scene) otherOf() int {
	if s.h.Priv < 3 || s.h.Csr.Status&mprv == 0 {
		return s.h.Priv
	}
	return int(s.h.Csr.Status / 2048 % 4)
}

// signOf answers x of so many bytes with its sign.
func signOf(x uint64, size uint64) uint64 {
	switch size {
	case 1:
		return uint64(int8(x))
	case 2:
		return uint64(int16(x))
	case 4:
		return uint64(int32(x))
	}
	return x
}

func (s *scene) loadOf(i api.Ins, at uint64) (uint64, *fault) {
	size := []uint64{1, 2, 4, 8}[i.F%4]
	if at%size != 0 {
		return 0, &fault{4, at}
	}
	place, f := s.leadsOf(at, 1, s.otherOf())
	if f != nil {
		return 0, f
	}
	x, left, ok := bus.Load(s.b, place, int(size))
	if !ok {
		return 0, &fault{5, at}
	}
	s.b = left
	if i.F <= 3 {
		x = signOf(x, size)
	}
	return x, nil
}

func (s *scene) storeOf(i api.Ins, at uint64, b uint64) *fault {
	size := []uint64{1, 2, 4, 8}[i.F%4]
	if at%size != 0 {
		return &fault{6, at}
	}
	place, f := s.leadsOf(at, 2, s.otherOf())
	if f != nil {
		return f
	}
	left, ok := bus.Store(s.b, place, int(size), b)
	if !ok {
		return &fault{7, at}
	}
	s.b = left
	return nil
}

func (s *scene) amoOf(i api.Ins, at uint64, b uint64) (uint64, *fault) {
	size, kind, align, access := uint64(8), 2, 6, 7
	if i.Word {
		size = 4
	}
	if i.F == 2 {
		kind, align, access = 1, 4, 5
	}
	if at%size != 0 {
		return 0, &fault{align, at}
	}
	place, f := s.leadsOf(at, kind, s.otherOf())
	if f != nil {
		return 0, f
	}
	if !ram.Inside(s.b.Ram, place, int(size)) {
		return 0, &fault{access, at}
	}
	x := s.get(place, int(size))
	if i.F == 2 {
		s.h.Reserve, s.h.Held = place, true
		return signOf(x, size), nil
	}
	if i.F == 3 {
		hit := s.h.Held && s.h.Reserve == place
		s.h.Held = false
		if !hit {
			return 1, nil
		}
		s.put(place, int(size), b)
		return 0, nil
	}
	s.put(place, int(size), alu.Amo(i.F, i.Word, x, b))
	return signOf(x, size), nil
}

func (s *scene) csrOf(i api.Ins, a uint64, word uint64) (uint64, *fault) {
	x := a
	if i.F > 4 {
		x = uint64(i.Rs1)
	}
	old, ok := csr.Read(s.h.Csr, int(i.Imm), s.h.Priv)
	if !ok {
		return 0, &fault{2, word}
	}
	switch i.F {
	case 2, 6:
		x |= old
	case 3, 7:
		x = old & ^x
	}
	if i.F%4 == 1 || i.Rs1 > 0 {
		left, ok := csr.Write(s.h.Csr, int(i.Imm), s.h.Priv, x)
		if !ok {
			return 0, &fault{2, word}
		}
		s.h.Csr = left
	}
	return old, nil
}

func (s *scene) systemOf(i api.Ins, to uint64, word uint64) (uint64, *fault) {
	status, none := s.h.Csr.Status, &fault{2, word}
	supervisors := s.h.Priv == 1
	switch i.F {
	case api.Ecall:
		return 0, &fault{[]int{8, 9, 10, 11}[s.h.Priv], 0}
	case api.Ebreak:
		return 0, &fault{3, s.h.Pc}
	case api.Sret:
		if s.h.Priv == 0 || supervisors && status&tsr != 0 {
			return 0, none
		}
		s.h.Csr, s.h.Priv, to = trap.Sret(s.h.Csr)
	case api.Mret:
		if s.h.Priv < 3 {
			return 0, none
		}
		s.h.Csr, s.h.Priv, to = trap.Mret(s.h.Csr)
	case api.Wfi:
		if s.h.Priv == 0 || s.h.Priv < 3 && status&tw != 0 {
			return 0, none
		}
		s.h.Wait = true
	case api.Sfence:
		if s.h.Priv == 0 || supervisors && status&tvm != 0 {
			return 0, none
		}
	}
	return to, nil
}
