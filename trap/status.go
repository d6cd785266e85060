package trap

import "drawbridge/api"

// part is a part of Status: a number from its bit low on, most at most.
type part struct {
	low  int
	most uint64
}

// of answers the part's number.
func (p part) of(status uint64) uint64 { return status >> p.low & p.most }

// parts are those that belong to a privilege to which traps go: whether interrupts are let in there, whether they were ahead of the trap, and which privilege the trap came from.
type parts struct {
	in   part
	was  part
	from part
}

// machine answers the Machine's parts.
func machine() parts {
	return parts{in: part{3, 1}, was: part{7, 1}, from: part{11, 3}}
}

// supervisor answers the Supervisor's parts. No trap comes to it from the Machine, so that one bit tells from where.
func supervisor() parts {
	return parts{in: part{1, 1}, was: part{5, 1}, from: part{8, 1}}
}

// asFrom answers the part that has the Machine load and store as the privilege that its last trap came from.
func asFrom() part { return part{17, 1} }

// setter answers a function that puts a number into a part of status, as far as the part holds it.
func setter(status *uint64) func(p part, x uint64) {
	return func(p part, x uint64) {
		*status = *status&^(p.most<<p.low) | (x&p.most)<<p.low
	}
}

// open tells whether interrupts are let in.
func (p parts) open(status uint64) bool { return p.in.of(status) == 1 }

// enter answers Status behind a trap from the privilege priv.
func (p parts) enter(status uint64, priv int) uint64 {
	set := setter(&status)
	set(p.was, p.in.of(status))
	set(p.in, 0)
	set(p.from, whence(priv))
	return status
}

// leave answers Status behind the return from a trap, and the privilege that it leads to.
func (p parts) leave(status uint64) (uint64, int) {
	priv := int(p.from.of(status))
	set := setter(&status)
	set(p.in, p.was.of(status))
	set(p.was, 1)
	set(p.from, api.User)
	if priv != api.Machine {
		set(asFrom(), 0)
	}
	return status, priv
}

// whence answers how a privilege stands where a trap's is kept: its two lowest bits, but for 2, which no privilege has.
func whence(priv int) uint64 {
	x := uint64(priv) & 3
	if x == 2 {
		return api.User
	}
	return x
}
