package seg

// Which option a byte begins: the end of all, one that fills a place, the Mss.
const (
	optionEnd  = 0
	optionFill = 1
	optionMss  = 2
)

// Of an option that is told with its size: where that stands, where what it tells begins, which is also how many bytes it has at least, and how many an Mss has.
const (
	optionSizeAt = 1
	optionTellAt = 2
	mssSize      = 4
)

// mssOption answers the option of an Mss; none of 0, which stands for no Mss.
func mssOption(mss int) []byte {
	if mss == 0 {
		return nil
	}
	return append([]byte{optionMss, mssSize}, pair(mss)...)
}

// mssIn answers the first Mss that options tell, 0 without; false, if they are none.
func mssIn(options []byte) (int, bool) {
	mss, found := 0, false
options:
	for len(options) > 0 {
		size := optionSize(options)
		switch {
		case size == 0:
			return 0, false
		case options[0] == optionEnd:
			break options
		case options[0] == optionMss && size == mssSize && !found:
			// The first one may be 0, and counts all the same.
			mss, found = pairAt(options, optionTellAt), true
		}
		options = options[size:]
	}
	return mss, true
}

// optionSize answers how many bytes the first of some options has; 0, if it is none.
func optionSize(options []byte) int {
	if options[0] == optionEnd || options[0] == optionFill {
		return 1
	}
	if len(options) < optionTellAt {
		return 0
	}
	size := int(options[optionSizeAt])
	if size < optionTellAt || size > len(options) {
		return 0
	}
	return size
}
