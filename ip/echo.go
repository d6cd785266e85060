package ip

import "drawbridge/sum"

// What an ICMP message begins with that asks for an echo, or answers it, and the byte behind that.
const (
	echoAsks    = 8
	echoAnswers = 0
	echoCode    = 0
)

// minEcho is how many bytes an echo has at least, echoSumAt where its checksum stands.
const (
	minEcho   = 8
	echoSumAt = 2
)

// asks tells whether a message is right, and asks for an echo.
func asks(b []byte) bool {
	return len(b) >= minEcho && b[0] == echoAsks && b[1] == echoCode && sum.Right(b)
}
