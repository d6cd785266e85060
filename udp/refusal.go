package udp

import (
	"errors"
	"strconv"

	"drawbridge/api"
)

// refusal is why bytes are no datagram: its number, how many they are, and its words.
type refusal struct {
	number api.Errno
	size   int
	why    string
}

func (r refusal) Error() string {
	return strconv.Itoa(r.size) + " bytes are no datagram: " + r.why
}

// number answers the number of why bytes are no datagram, if they are none.
func number(err error) api.Errno {
	var r refusal
	if errors.As(err, &r) {
		return r.number
	}
	return api.OK
}
