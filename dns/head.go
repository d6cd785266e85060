package dns

import (
	"math"
	"slices"

	"drawbridge/bits"
)

// Where the parts of a head stand that are read, and how many bytes it has: behind them stand numbers of answers, which a question has none of.
const (
	idAt     = 0
	flagsAt  = 2
	countAt  = 4
	headSize = 12
)

// pairSize is how many bytes a number has.
const pairSize = 2

// Flags: a message answers; whoever is asked may ask others; whoever answers would do so.
const (
	flagAnswer = 1 << 15
	flagOthers = 1 << 8
	flagWould  = 1 << 7
)

// The flags of what is written here, and all codes that stand below those of what fails.
const (
	asks     = flagOthers
	fails    = flagAnswer | flagOthers | flagWould
	allCodes = 15
)

// oneQuestion is how many questions a message has.
const oneQuestion = 1

// isNumber tells whether x has room in a number's bytes.
func isNumber(x int) bool { return x >= 0 && x <= math.MaxUint16 }

// hasHead tells whether b is not too short for a head.
func hasHead(b []byte) bool { return len(b) >= headSize }

// headOf answers the head of a message with one question, and without any answer.
func headOf(id int, flags int) []byte {
	return slices.Concat(pair(id), pair(flags), pair(oneQuestion), make([]byte, headSize-countAt-pairSize))
}

// pair answers the two bytes of a number, pairAt the number whose two bytes stand at a place of b.
func pair(x int) []byte           { return bits.Put(uint64(x), pairSize, true) }
func pairAt(b []byte, at int) int { return int(bits.Get(b[at:at+pairSize], true)) }
