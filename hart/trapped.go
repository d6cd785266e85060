package hart

import (
	"errors"
	"strconv"

	"drawbridge/api"
	"drawbridge/sv39"
)

// trapped is a trap on its way up, from the depth of an instruction to the step that does it.
type trapped struct {
	cause int
	tval  uint64
}

func (t trapped) Error() string {
	return "trap " + strconv.Itoa(t.cause) + ", value " + strconv.FormatUint(t.tval, 16)
}

// caught does something, and answers the trap that ended it, and true; false, if none did. Nothing else panics there.
func caught(do func()) (t trapped, was bool) {
	defer func() {
		if err, ok := recover().(error); ok {
			was = errors.As(err, &t)
		}
	}()
	do()
	return t, was
}

// mustBe traps, unless the instruction is one that may be done.
func (c *core) mustBe(ok bool) {
	if !ok {
		panic(trapped{api.CauseIllegal, c.word})
	}
}

// mustReach traps, unless something is there where the address at, which is asked for by kind, leads.
func mustReach(ok bool, at uint64, kind int) {
	if !ok {
		panic(trapped{sv39.Fault(kind, false), at})
	}
}
