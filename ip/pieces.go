package ip

import (
	"slices"

	"drawbridge/api"
)

// unit is how many bytes one of Off stands for.
const unit = 8

// Flags of a packet: there are more pieces behind it, and it may not be cut.
const (
	flagMore  = 1
	flagUncut = 2
)

// units answers how many units n bytes take; what is left over takes one.
func units(n int) int { return (n + unit - 1) / unit }

// alone answers a packet like p, which shares nothing with it.
func alone(p api.Ip) api.Ip {
	p.Options, p.Data = slices.Clone(p.Options), slices.Clone(p.Data)
	return p
}

// pieces answers p in pieces with most bytes of Data each, the last one with what is left.
func pieces(p api.Ip, most int) []api.Ip {
	var list []api.Ip
	// One copy does for all pieces, since each is cut at its end: what is appended to one takes other memory.
	data := slices.Clone(p.Data)
	for at := 0; at < len(data); at += most {
		end := min(at+most, len(data))
		q := p
		q.Options, q.Data = slices.Clone(p.Options), data[at:end:end]
		q.Off += at / unit
		if end < len(data) {
			q.Flags |= flagMore
		}
		list = append(list, q)
	}
	return list
}
