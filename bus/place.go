package bus

import (
	"slices"

	"drawbridge/api"
	"drawbridge/clint"
	"drawbridge/nic"
	"drawbridge/plic"
	"drawbridge/ram"
	"drawbridge/uart"
)

// Where the devices' addresses begin, and how many there are; all others are memory's.
const (
	clintBase  = 0x2000000
	clintCount = 0x10000
	plicBase   = 0xc000000
	plicCount  = 0x400000
	uartBase   = 0x10000000
	uartCount  = 8
	nicBase    = 0x10001000
	nicCount   = 0x100
)

// place is where an address of a board leads: the two functions are made for that address.
type place struct {
	load  func(size int) (uint64, api.Board, bool)
	store func(size int, x uint64) (api.Board, bool)
}

// find answers the place of an address.
func find(b api.Board, at uint64) place {
	switch {
	case isWithin(at, clintBase, clintCount):
		return clintPlace(b, at-clintBase)
	case isWithin(at, plicBase, plicCount):
		return plicPlace(b, at-plicBase)
	case isWithin(at, uartBase, uartCount):
		return uartPlace(b, at-uartBase)
	case isWithin(at, nicBase, nicCount):
		return nicPlace(b, at-nicBase)
	}
	return ramPlace(b, at)
}

// isWithin tells whether an address is one of count from base on.
func isWithin(at uint64, base uint64, count uint64) bool {
	return at >= base && at-base < count
}

// clintPlace answers the place of the timer at off.
func clintPlace(b api.Board, off uint64) place {
	return place{
		load: func(size int) (uint64, api.Board, bool) {
			x, ok := clint.Load(b.Clint, off, size)
			return x, own(b), ok
		},
		store: func(size int, x uint64) (api.Board, bool) {
			left := own(b)
			var ok bool
			left.Clint, ok = clint.Store(b.Clint, off, size, x)
			return left, ok
		},
	}
}

// plicPlace answers the place of the interrupt controller at off.
func plicPlace(b api.Board, off uint64) place {
	return place{
		load: func(size int) (uint64, api.Board, bool) {
			left := own(b)
			x, behind, ok := plic.Load(b.Plic, off, size)
			left.Plic = behind
			return x, left, ok
		},
		store: func(size int, x uint64) (api.Board, bool) {
			left := own(b)
			var ok bool
			left.Plic, ok = plic.Store(b.Plic, off, size, x)
			return left, ok
		},
	}
}

// uartPlace answers the place of the line to a person at off.
func uartPlace(b api.Board, off uint64) place {
	return place{
		load: func(size int) (uint64, api.Board, bool) {
			left := own(b)
			x, behind, ok := uart.Load(b.Uart, off, size)
			left.Uart = behind
			return x, left, ok
		},
		store: func(size int, x uint64) (api.Board, bool) {
			left := own(b)
			var ok bool
			left.Uart, ok = uart.Store(b.Uart, off, size, x)
			return left, ok
		},
	}
}

// nicPlace answers the place of the Ethernet controller at off.
func nicPlace(b api.Board, off uint64) place {
	return place{
		load: func(size int) (uint64, api.Board, bool) {
			x, ok := nic.Load(b.Nic, off, size)
			return x, own(b), ok
		},
		store: func(size int, x uint64) (api.Board, bool) {
			left := own(b)
			var ok bool
			left.Nic, ok = nic.Store(b.Nic, off, size, x)
			return left, ok
		},
	}
}

// ramPlace answers the place of memory at an address, which memory knows itself.
func ramPlace(b api.Board, at uint64) place {
	return place{
		load: func(size int) (uint64, api.Board, bool) {
			x, ok := ram.Read(b.Ram, at, size)
			return x, own(b), ok
		},
		store: func(size int, x uint64) (api.Board, bool) {
			// Memory that is written is new already, and by far the longest of what a board holds.
			left := ownDevices(b)
			var ok bool
			left.Ram, ok = ram.Write(b.Ram, at, size, x)
			return left, ok
		},
	}
}

// own answers a board like b that shares nothing with it.
func own(b api.Board) api.Board {
	b.Ram.Data = slices.Clone(b.Ram.Data)
	return ownDevices(b)
}

// ownDevices answers a board like b that shares nothing with it but memory.
func ownDevices(b api.Board) api.Board {
	b.Plic.Prio = slices.Clone(b.Plic.Prio)
	b.Plic.Enable = slices.Clone(b.Plic.Enable)
	b.Plic.Threshold = slices.Clone(b.Plic.Threshold)
	b.Uart.In = slices.Clone(b.Uart.In)
	b.Uart.Out = slices.Clone(b.Uart.Out)
	b.Nic.Mac = slices.Clone(b.Nic.Mac)
	return b
}
