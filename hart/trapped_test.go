package hart

import (
	"errors"
	"testing"
)

// wrapped is an error that holds another one.
type wrapped struct{ why error }

func (w wrapped) Error() string { return "wrapped: " + w.why.Error() }
func (w wrapped) Unwrap() error { return w.why }

// P14.3: a trap that goes up as a panic is found, also where it is wrapped; nothing else is one.
func TestCaught(t *testing.T) {
	for _, e := range []struct {
		name string
		do   func()
		want trapped
		was  bool
	}{
		{"a trap", func() { panic(trapped{5, 0xab}) }, trapped{5, 0xab}, true},
		{"a trap that is wrapped", func() { panic(wrapped{trapped{7, 1}}) }, trapped{7, 1}, true},
		{"nothing", func() {}, trapped{}, false},
		{"another error", func() { panic(errors.New("another")) }, trapped{}, false},
		{"no error", func() { panic("a text") }, trapped{}, false},
	} {
		if got, was := caught(e.do); got != e.want || was != e.was {
			t.Errorf("%s: %v, %v", e.name, got, was)
		}
	}
}

// P14.3: a trap tells its cause, and its value as a number of digits of 16.
func TestTrappedError(t *testing.T) {
	if text := (trapped{15, 0x80000abc}).Error(); text != "trap 15, value 80000abc" {
		t.Error(text)
	}
}
