package sv39

import (
	"drawbridge/api"
	"drawbridge/bits"
)

// The bits of status that open pages to one who may not see them else: those of a User to the Supervisor's data, and those that can be done to who reads.
const (
	seesUser = 18
	readsRun = 19
)

// asker is who asks for a place, and what for.
type asker struct {
	status uint64
	priv   int
	kind   int
}

// allows tells whether a bit of status is 1.
func (a asker) allows(bit int) bool { return bits.Field(a.status, bit, bit) == 1 }

// may tells whether the page of a leaf may be used so.
func (a asker) may(e entry) bool { return a.enters(e) && a.does(e) }

// enters tells whether the page is for one with this privilege.
func (a asker) enters(e entry) bool {
	if a.priv < api.Supervisor {
		return e.has(ofUser)
	}
	// What a User could have written is never run by one above.
	return !e.has(ofUser) || a.kind != api.Fetch && a.allows(seesUser)
}

// does tells whether what is asked for can be done with the page.
func (a asker) does(e entry) bool {
	switch a.kind {
	case api.Fetch:
		return e.has(executable)
	case api.Writing:
		return e.has(writable)
	}
	return e.has(readable) || e.has(executable) && a.allows(readsRun)
}
