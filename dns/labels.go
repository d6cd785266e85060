package dns

import (
	"strings"

	"drawbridge/api"
)

// dot stands between the labels of a name.
const dot = "."

// How many bytes stand ahead of a label, and tell its size; the one behind all labels tells that there are no more.
const (
	sizeSize = 1
	endSize  = 1
	noMore   = 0
)

// How many bytes a label has at most, all labels have with their sizes and the end, and a name has: the dots in it stand for all sizes but one.
const (
	maxLabel  = 63
	maxLabels = 255
	maxName   = maxLabels - sizeSize - endSize
)

// labelsIn answers the labels that b tells behind its head, and where they end; or why they are none.
func labelsIn(b []byte) ([]string, int, error) {
	var list []string
	at := headSize
labels:
	for {
		label, err := labelAt(b, at)
		at += sizeSize + len(label)
		switch {
		case err != nil:
			return nil, 0, err
		case label == "":
			break labels
		case at+endSize > headSize+maxLabels:
			return nil, 0, refusal{api.ErrForm, at, "the labels are too many"}
		}
		list = append(list, label)
	}
	return list, at, nil
}

// labelAt answers the label whose size stands at a place of b, the empty text where they end; or why it is none. Of several reasons it is the one of the first byte.
func labelAt(b []byte, at int) (string, error) {
	if at == len(b) {
		return "", refusal{api.ErrShort, at, "a label's size is missing"}
	}
	from := at + sizeSize
	end := from + int(b[at])
	if end > from+maxLabel {
		return "", refusal{api.ErrForm, at, "a label is too long"}
	}
	for i := from; i < end; i++ {
		switch {
		case i == len(b):
			return "", refusal{api.ErrShort, i, "a label ends too soon"}
		case !isLetter(b[i]):
			return "", refusal{api.ErrForm, i, "this may not stand in a label"}
		}
	}
	return string(b[from:end]), nil
}

// isLetter tells whether x may stand in a label.
func isLetter(x byte) bool {
	return x >= 'A' && x <= 'Z' || x >= 'a' && x <= 'z' || x >= '0' && x <= '9' || x == '-' || x == '_'
}

// isName tells whether a name may be, which has no dot at its end. How long it is comes first, so that no long one is taken apart.
func isName(name string) bool {
	if len(name) > maxName {
		return false
	}
	for _, label := range labelsOf(name) {
		if !isLabel(label) {
			return false
		}
	}
	return true
}

// isLabel tells whether a text may be a label.
func isLabel(text string) bool {
	for _, x := range []byte(text) {
		if !isLetter(x) {
			return false
		}
	}
	return text != "" && len(text) <= maxLabel
}

// labelsOf answers the labels of a name.
func labelsOf(name string) []string {
	// Taken apart, the empty name would have one label, which would be empty.
	if name == "" {
		return nil
	}
	return strings.Split(name, dot)
}

// labelBytes answers the bytes of labels, and of their end.
func labelBytes(labels []string) []byte {
	var b []byte
	for _, label := range labels {
		b = append(append(b, byte(len(label))), label...)
	}
	return append(b, noMore)
}
