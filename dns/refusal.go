package dns

import (
	"errors"
	"strconv"

	"drawbridge/api"
)

// refusal is why bytes are no question: its number, at which byte it is seen, and its words.
type refusal struct {
	number api.Errno
	at     int
	why    string
}

func (r refusal) Error() string {
	return "no question at byte " + strconv.Itoa(r.at) + ": " + r.why
}

// number answers the number of why bytes are no question, if they are none.
func number(err error) api.Errno {
	var r refusal
	if errors.As(err, &r) {
		return r.number
	}
	return api.OK
}
