package sv39

import (
	"drawbridge/api"
	"drawbridge/bits"
)

// The bits of an entry, by their places. One of them, and those between dirty and the page's number, are nobody's.
const (
	valid = iota
	readable
	writable
	executable
	ofUser
	_
	accessed
	dirty
)

// entrySize is how many bytes an entry has.
const entrySize = 8

// entry is an entry of a table: a page, and what may be done there, or where the next table is.
type entry uint64

// has tells whether a bit of the entry is 1.
func (e entry) has(bit int) bool { return bits.Field(uint64(e), bit, bit) == 1 }

// page answers the address of the page, or of the table, that the entry names.
func (e entry) page() uint64 { return bits.Field(uint64(e), 53, 10) << pageBits }

// right tells whether the entry is one at all.
func (e entry) right() bool {
	if e.has(writable) && !e.has(readable) {
		return false
	}
	return e.has(valid) && bits.Field(uint64(e), 63, 54) == 0
}

// ofTable tells whether the entry names a table: nothing can be done with a page by it.
func (e entry) ofTable() bool { return !e.has(readable) && !e.has(executable) }

// leads tells whether the entry leads to the next table.
func (e entry) leads() bool {
	return e.right() && e.ofTable() && !e.has(ofUser) && !e.has(accessed) && !e.has(dirty)
}

// isLeaf tells whether the entry is a leaf whose page begins where one of its level may: nothing of its address is left to the address that is translated.
func (e entry) isLeaf(level int) bool {
	return e.right() && !e.ofTable() && rest(e.page(), level) == 0
}

// marked answers the entry behind its use by kind.
func (e entry) marked(kind int) entry {
	e |= 1 << accessed
	if kind == api.Writing {
		e |= 1 << dirty
	}
	return e
}
