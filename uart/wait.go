package uart

import (
	"bytes"

	"drawbridge/api"
)

// How many bytes wait at most each way, and how many lost ones are counted.
const (
	maxIn   = 16
	maxOut  = 4096
	maxLost = 1 << 31
)

// Of the interrupts that can be let out just the first one ever comes; the other one is kept for those who ask.
const (
	enableIn    = 1
	enableCount = 4
)

// What the state tells: whether a byte waits, and that what is stored goes out, which it always does.
const (
	stateIn  = 1
	stateOut = 0x60
)

// waits tells whether a byte waits to be loaded.
func waits(u api.Uart) bool { return len(u.In) > 0 }

// state answers what the register of the state has.
func state(u api.Uart) uint64 {
	if waits(u) {
		return stateOut | stateIn
	}
	return stateOut
}

// behind answers the bytes that wait with as many more behind them as most lets be, and how many did not fit.
func behind(wait []byte, more []byte, most int) ([]byte, int) {
	fit := min(len(more), max(most-len(wait), 0))
	// Cut at its end the list has no room, so that append takes other memory, and whatever stands behind it stays.
	return append(wait[:len(wait):len(wait)], more[:fit]...), len(more) - fit
}

// own answers a line like u that shares nothing with it.
func own(u api.Uart) api.Uart {
	u.In = bytes.Clone(u.In)
	u.Out = bytes.Clone(u.Out)
	return u
}
