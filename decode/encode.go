package decode

import "drawbridge/api"

// Encode answers the word that Decode takes apart to i, its bits that Decode does not look at noughts, and true; 0, false, if there is none.
func Encode(i api.Ins) (uint32, bool) {
	w := uint32(fixed(i) | shapeOf(i).spread(i))
	// Whatever of i found no place in the word, or was cut, is not there again.
	if back, ok := Decode(w); !ok || back != i {
		return 0, false
	}
	return w, true
}

// fixed answers the bits that say which instruction i is; of a class that there is not 0, which is no instruction.
func fixed(i api.Ins) uint64 {
	f := lowest(i.F, 3) << 12
	switch i.Class {
	case api.Lui:
		return opLui
	case api.Auipc:
		return opAuipc
	case api.Jal:
		return opJal
	case api.Jalr:
		return opJalr
	case api.Branch:
		return f | opBranch
	case api.Load:
		return f | opLoad
	case api.Store:
		return f | opStore
	case api.AluImm:
		return f | upper(i.F)<<25 | either(i.Word, opImmWord, opImm)
	case api.Alu:
		return f | upper(i.F)<<25 | either(i.Word, opRegWord, opReg)
	case api.Fence:
		return f | opFence
	case api.System:
		return systemWord(i.F)
	case api.Csr:
		return f | opSystem
	case api.Amo:
		return lowest(i.F, 5)<<27 | either(i.Word, ofWord, ofDouble)<<12 | opAmo
	}
	return 0
}

// upper answers bits 31-25 of what an Alu does.
func upper(f int) uint64 {
	switch {
	case f >= timesBeyond:
		return times
	case f >= lessBeyond:
		return less
	}
	return 0
}

// either answers the one of two, by ok.
func either(ok bool, one uint64, other uint64) uint64 {
	if ok {
		return one
	}
	return other
}

// systemWord answers the word of a System instruction, sfence's without its registers; of others 0.
func systemWord(f int) uint64 {
	switch f {
	case api.Ecall:
		return ecall
	case api.Ebreak:
		return ebreak
	case api.Sret:
		return sret
	case api.Mret:
		return mret
	case api.Wfi:
		return wfi
	case api.Sfence:
		return sfence
	}
	return 0
}
