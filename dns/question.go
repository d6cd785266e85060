package dns

import (
	"strings"

	"drawbridge/api"
)

// class is that of all names that are asked for here.
const class = 1

// tailSize is how many bytes stand behind the labels: the kind's and the class's.
const tailSize = 2 * pairSize

// question is what a message asks for, and where it ends.
type question struct {
	name string
	kind int
	end  int
}

// questionIn answers the question of a message, or why its bytes are none's.
func questionIn(b []byte) (question, error) {
	switch {
	case !hasHead(b):
		return question{}, refusal{api.ErrShort, len(b), "the head ends too soon"}
	case pairAt(b, countAt) != oneQuestion:
		return question{}, refusal{api.ErrForm, countAt, "this tells of none, or of several"}
	}
	labels, at, err := labelsIn(b)
	if err != nil {
		return question{}, err
	}
	end := at + tailSize
	if len(b) < end {
		return question{}, refusal{api.ErrShort, len(b), "what follows the labels ends too soon"}
	}
	return question{strings.ToLower(strings.Join(labels, dot)), pairAt(b, at), end}, nil
}
