package nic

import (
	"bytes"
	"slices"

	"drawbridge/api"
	"drawbridge/ram"
)

// isFrame tells whether a frame may have so many bytes.
func isFrame(size int) bool { return size >= api.MinFrame && size <= api.MaxFrame }

// send answers memory behind the next descriptor to be sent, its frame, and whether something was done.
func (c *registers) send(r api.Ram) (api.Ram, []byte, bool) {
	g := sending()
	if !c.waits(g) {
		return ownRam(r), nil, false
	}
	d, ok := c.next(g, r)
	if !ok {
		return ownRam(r), nil, true
	}
	if !d.owned() {
		return ownRam(r), nil, false
	}
	frame, ok := ram.Bytes(r, d.address(), d.length())
	if !ok || !isFrame(len(frame)) {
		c.fail()
		return c.done(g, r, d, statusNoFrame), nil, true
	}
	c[cause] |= causeSent
	return c.done(g, r, d, statusDone), frame, true
}

// receive answers memory behind a frame that comes, and whether it was received; else it is dropped.
func (c *registers) receive(r api.Ram, frame []byte) (api.Ram, bool) {
	g := receiving()
	if !c.takes(frame) || !c.waits(g) {
		c.drop()
		return ownRam(r), false
	}
	d, ok := c.next(g, r)
	if !ok || !d.owned() {
		c.drop()
		return ownRam(r), false
	}
	if d.length() < len(frame) || !ram.Inside(r, d.address(), len(frame)) {
		c.fail()
		c.drop()
		return c.done(g, r, d, statusNoRoom), false
	}
	// The length ahead of the frame, which may lie over it, and both ahead of what done writes.
	r, _ = ram.Write(r, c.place(g)+lengthAt, flagsAt-lengthAt, uint64(len(frame)))
	r, _ = ram.Fill(r, d.address(), frame)
	c[cause] |= causeReceived
	return c.done(g, r, d, statusDone), true
}

// takes tells whether a frame that comes is one at all, and for this controller.
func (c *registers) takes(frame []byte) bool {
	if !isFrame(len(frame)) {
		return false
	}
	to := frame[:macSize]
	return c.has(ctrl, ctrlReceivesAll) || bytes.Equal(to, c.mac()) || isForAll(to)
}

// isForAll tells whether an address is that of all.
func isForAll(mac []byte) bool {
	return !slices.ContainsFunc(mac, func(x byte) bool { return x != 0xff })
}
