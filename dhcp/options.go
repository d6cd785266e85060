package dhcp

import (
	"drawbridge/api"
	"drawbridge/bits"
)

// Which option a number is. Two have no size: one fills a place, one ends all.
const (
	optionFill   = 0
	optionMask   = 1
	optionRouter = 3
	optionDns    = 6
	optionWant   = 50
	optionLease  = 51
	optionType   = 53
	optionServer = 54
	optionEnd    = 255
)

// Of an option that is told with its size: where that stands, and where what it tells begins.
const (
	optionSizeAt = 1
	optionTellAt = 2
)

// typeSize is how many bytes a type has.
const typeSize = 1

// kind is a kind of option: its number, how many bytes of it count, and whether others may stand behind them.
type kind struct {
	number byte
	size   int
	more   bool
}

// kinds answers the kinds that count, in the order in which they are written.
func kinds() []kind {
	return []kind{
		{number: optionType, size: typeSize},
		{number: optionWant, size: longSize},
		{number: optionServer, size: longSize},
		{number: optionLease, size: longSize},
		{number: optionMask, size: longSize},
		// These may tell several addresses, of which the first one is to be taken.
		{number: optionRouter, size: longSize, more: true},
		{number: optionDns, size: longSize, more: true},
	}
}

// takes tells whether an option of this number, which tells so many bytes, is of the kind.
func (k kind) takes(number byte, size int) bool {
	return k.number == number && (k.size == size || k.more && size > k.size)
}

// options is what a message's options tell, by their numbers.
type options map[byte]uint32

// optionsOf answers the options of a message.
func optionsOf(d api.Dhcp) options {
	return options{
		optionType:   uint32(d.Type),
		optionWant:   d.Want,
		optionServer: d.Server,
		optionLease:  d.Lease,
		optionMask:   d.Mask,
		optionRouter: d.Router,
		optionDns:    d.Dns,
	}
}

// addTo answers a message with what these options tell.
func (told options) addTo(d api.Dhcp) api.Dhcp {
	d.Type = int(told[optionType])
	d.Want = told[optionWant]
	d.Server = told[optionServer]
	d.Lease = told[optionLease]
	d.Mask = told[optionMask]
	d.Router = told[optionRouter]
	d.Dns = told[optionDns]
	return d
}

// bytes answers the bytes of all options, and of their end.
func (told options) bytes() []byte {
	var b []byte
	write := told.writer()
	for _, k := range kinds() {
		b = append(b, write(k)...)
	}
	return append(b, optionEnd)
}

// writer answers a function that answers the bytes of the option of a kind; none of 0, which stands for what is not told.
func (told options) writer() func(k kind) []byte {
	return func(k kind) []byte {
		x := told[k.number]
		if x == 0 {
			return nil
		}
		return append([]byte{k.number, byte(k.size)}, bits.Put(uint64(x), k.size, true)...)
	}
}

// optionsIn answers the options that b tells; false, if they are none.
func optionsIn(b []byte) (options, bool) {
	told := options{}
	for len(b) > 0 && b[0] != optionEnd {
		size := optionSize(b)
		if size == 0 {
			return nil, false
		}
		if b[0] != optionFill {
			told.take(b[0], b[optionTellAt:size])
		}
		b = b[size:]
	}
	return told, true
}

// take keeps what an option tells, if it counts. One that is kept stays, be it 0: the first one counts.
func (told options) take(number byte, tells []byte) {
	for _, k := range kinds() {
		if _, kept := told[number]; !kept && k.takes(number, len(tells)) {
			told[number] = uint32(bits.Get(tells[:k.size], true))
		}
	}
}

// optionSize answers how many bytes the first of some options has in all; 0, if it is none.
func optionSize(b []byte) int {
	if b[0] == optionFill {
		return 1
	}
	if len(b) < optionTellAt {
		return 0
	}
	size := optionTellAt + int(b[optionSizeAt])
	if size > len(b) {
		return 0
	}
	return size
}
