package udp

import (
	"slices"

	"drawbridge/api"
	"drawbridge/sum"
)

// check answers why bytes are no datagram, if they are none. A reason stands behind those without which it could not be asked.
func check(b []byte, src uint32, dst uint32) error {
	if len(b) < headSize {
		return refusal{api.ErrShort, len(b), "they are fewer than a head"}
	}
	h := headAt(b)
	switch {
	case h[size] < headSize:
		return refusal{api.ErrForm, len(b), "they tell that they are fewer than a head"}
	case len(b) < h[size]:
		return refusal{api.ErrShort, len(b), "they tell that they are more"}
	case h[checksum] != noChecksum && !sum.Right(covered(b[:h[size]], src, dst)):
		return refusal{api.ErrSum, len(b), "their checksum is wrong"}
	}
	return nil
}

// datagram answers the datagram that has the first of these bytes, or why they are none's.
func datagram(b []byte, src uint32, dst uint32) (api.Udp, error) {
	if err := check(b, src, dst); err != nil {
		return api.Udp{}, err
	}
	h := headAt(b)
	return api.Udp{
		Src:  h[srcPort],
		Dst:  h[dstPort],
		Data: slices.Clone(b[headSize:h[size]]),
	}, nil
}
