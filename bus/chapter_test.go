package bus

import (
	"math"

	"drawbridge/api"
	"drawbridge/clint"
	"drawbridge/nic"
	"drawbridge/plic"
	"drawbridge/ram"
	"drawbridge/uart"
)

// ones is a number of all bits.
const ones = math.MaxUint64

// area is some addresses of a board, from the first to the last one, and what is asked of the layer whose they are. Places there are counted from base on.
type area struct {
	name        string
	first, last uint64
	base        uint64
	load        func(b *api.Board, off uint64, size int) (uint64, bool)
	store       func(b *api.Board, off uint64, size int, x uint64) bool
}

// areas are those of the devices, and those of memory between them, each with its ends written out.
func areas() []area {
	var list []area
	for _, at := range [][2]uint64{{0, 0x1ffffff}, {0x2010000, 0xbffffff}, {0xc400000, 0xfffffff}, {0x10000008, 0x10000fff}, {0x10001100, ones}} {
		list = append(list, area{"memory", at[0], at[1], 0, loadRam, storeRam})
	}
	return append(list,
		area{"the timer", 0x2000000, 0x200ffff, 0x2000000, loadClint, storeClint},
		area{"the interrupt controller", 0xc000000, 0xc3fffff, 0xc000000, loadPlic, storePlic},
		area{"the line", 0x10000000, 0x10000007, 0x10000000, loadUart, storeUart},
		area{"the Ethernet controller", 0x10001000, 0x100010ff, 0x10001000, loadNic, storeNic},
	)
}

// areaOf answers the area of an address.
func areaOf(at uint64) area {
	for _, a := range areas() {
		if a.first <= at && at <= a.last {
			return a
		}
	}
	panic("an address of no area")
}

func loadRam(b *api.Board, at uint64, size int) (uint64, bool) { return ram.Read(b.Ram, at, size) }

func storeRam(b *api.Board, at uint64, size int, x uint64) (ok bool) {
	b.Ram, ok = ram.Write(b.Ram, at, size, x)
	return ok
}

func loadClint(b *api.Board, off uint64, size int) (uint64, bool) {
	return clint.Load(b.Clint, off, size)
}

func storeClint(b *api.Board, off uint64, size int, x uint64) (ok bool) {
	b.Clint, ok = clint.Store(b.Clint, off, size, x)
	return ok
}

func loadPlic(b *api.Board, off uint64, size int) (x uint64, ok bool) {
	x, b.Plic, ok = plic.Load(b.Plic, off, size)
	return x, ok
}

func storePlic(b *api.Board, off uint64, size int, x uint64) (ok bool) {
	b.Plic, ok = plic.Store(b.Plic, off, size, x)
	return ok
}

func loadUart(b *api.Board, off uint64, size int) (x uint64, ok bool) {
	x, b.Uart, ok = uart.Load(b.Uart, off, size)
	return x, ok
}

func storeUart(b *api.Board, off uint64, size int, x uint64) (ok bool) {
	b.Uart, ok = uart.Store(b.Uart, off, size, x)
	return ok
}

func loadNic(b *api.Board, off uint64, size int) (uint64, bool) { return nic.Load(b.Nic, off, size) }

func storeNic(b *api.Board, off uint64, size int, x uint64) (ok bool) {
	b.Nic, ok = nic.Store(b.Nic, off, size, x)
	return ok
}

// loadOf answers what Load has to answer.
func loadOf(b api.Board, at uint64, size int) (uint64, api.Board, bool) {
	a := areaOf(at)
	x, ok := a.load(&b, at-a.base, size)
	return x, b, ok
}

// storeOf answers what Store has to answer.
func storeOf(b api.Board, at uint64, size int, x uint64) (api.Board, bool) {
	a := areaOf(at)
	ok := a.store(&b, at-a.base, size, x)
	return b, ok
}

// linesOf answers what Lines has to answer.
func linesOf(b api.Board) (api.Board, uint64) {
	sources := 0
	if uart.Line(b.Uart) {
		sources += 2
	}
	if nic.Line(b.Nic) {
		sources += 4
	}
	b.Plic = plic.Set(b.Plic, sources)
	up := uint64(0)
	soft, timer := clint.Lines(b.Clint)
	for _, line := range []struct {
		up     bool
		number int
	}{{soft, 3}, {timer, 7}, {plic.Best(b.Plic, 1) > 0, 9}, {plic.Best(b.Plic, 0) > 0, 11}} {
		if line.up {
			up += uint64(math.Pow(2, float64(line.number)))
		}
	}
	return b, up
}
