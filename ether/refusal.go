package ether

import (
	"errors"
	"strconv"

	"drawbridge/api"
)

// Why bytes are refused.
var (
	errShort = errors.New("they are too few")
	errLong  = errors.New("they are too many")
	errOther = errors.New("they are of another form")
)

// refusal wraps why bytes are refused with what they are not, and how many they are.
type refusal struct {
	what string
	size int
	why  error
}

func (r refusal) Error() string {
	return strconv.Itoa(r.size) + " bytes are no " + r.what + ": " + r.why.Error()
}

func (r refusal) Unwrap() error { return r.why }

// number answers the number of why bytes are refused, if they are.
func number(err error) api.Errno {
	switch {
	case err == nil:
		return api.OK
	case errors.Is(err, errShort):
		return api.ErrShort
	}
	return api.ErrForm
}
