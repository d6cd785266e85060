package ether

import (
	"bytes"
	"math"
	"testing"

	"drawbridge/api"
)

// answers tells of an Answer that is not as the chapter has it.
func answers(t *testing.T, a api.Arp, mac []byte, ip uint32) {
	t.Helper()
	got, ok := Answer(a, mac, ip)
	if want, may := answerOf(a, mac, ip); ok != may || !sameArp(got, want) {
		t.Fatalf("Answer(%x, % x, %#x) = %x, %v, not %x, %v", a, mac, ip, got, ok, want, may)
	}
}

// refuses tells of an Answer that is one.
func refuses(t *testing.T, a api.Arp, mac []byte, ip uint32) {
	t.Helper()
	if got, ok := Answer(a, mac, ip); ok || !sameArp(got, api.Arp{}) {
		t.Errorf("Answer(%x, % x, %#x) = %x, %v", a, mac, ip, got, ok)
	}
}

// P16.3: an answer, part by part.
func TestAnswerExample(t *testing.T) {
	mac := []byte{0x52, 0x55, 10, 0, 2, 2}
	a := api.Arp{Op: 1, Smac: []byte{0x52, 0x54, 0x00, 0x12, 0x34, 0x56}, Sip: 0x0a00020f, Tmac: run(1, 6), Tip: api.GateIp}
	got, ok := Answer(a, mac, api.GateIp)
	if !ok {
		t.Fatal("no answer")
	}
	if got.Op != 2 {
		t.Errorf("Op is %d", got.Op)
	}
	if !bytes.Equal(got.Smac, mac) {
		t.Errorf("Smac is % x", got.Smac)
	}
	if got.Sip != api.GateIp {
		t.Errorf("Sip is %#x", got.Sip)
	}
	if !bytes.Equal(got.Tmac, []byte{0x52, 0x54, 0x00, 0x12, 0x34, 0x56}) {
		t.Errorf("Tmac is % x", got.Tmac)
	}
	if got.Tip != 0x0a00020f {
		t.Errorf("Tip is %#x", got.Tip)
	}
	refuses(t, a, mac, api.DnsIp)
	b, e := PutArp(got)
	want := []byte{
		0, 1, 8, 0, 6, 4, 0, 2,
		0x52, 0x55, 10, 0, 2, 2, 10, 0, 2, 2,
		0x52, 0x54, 0x00, 0x12, 0x34, 0x56, 10, 0, 2, 15,
	}
	if e != api.OK || !bytes.Equal(b, want) {
		t.Errorf("PutArp = % x, %d", b, e)
	}
}

// P16.3: messages that ask, with each address asked for and each that answers.
func TestAnswerIps(t *testing.T) {
	a := asks()
	answered := 0
	for _, a.Tip = range ips {
		for _, a.Sip = range ips {
			for _, ip := range ips {
				answers(t, a, run(1, 6), ip)
				if _, ok := Answer(a, run(1, 6), ip); ok != (a.Tip == ip) {
					t.Errorf("asked for %#x, told as %#x: %v", a.Tip, ip, ok)
				} else if ok {
					answered++
				}
			}
		}
	}
	if answered != len(ips)*len(ips) {
		t.Errorf("%d are answered", answered)
	}
	// One bit is enough for another address.
	for bit := range 32 {
		refuses(t, asks(), run(1, 6), asks().Tip^1<<bit)
	}
	// Whose address it was that asks does not matter.
	refuses(t, asks(), run(1, 6), asks().Sip)
}

// P16.3: just Op 1 is answered.
func TestAnswerOps(t *testing.T) {
	a := asks()
	for a.Op = -300; a.Op < 300; a.Op++ {
		if _, ok := Answer(a, run(1, 6), a.Tip); ok != (a.Op == 1) {
			t.Errorf("Op %d: %v", a.Op, ok)
		}
		answers(t, a, run(1, 6), a.Tip)
	}
	for _, a.Op = range wrongOps {
		refuses(t, a, run(1, 6), a.Tip)
	}
	a.Op = 2
	refuses(t, a, run(1, 6), a.Tip)
}

// P16.3: a mac that has not 6 bytes answers nothing.
func TestAnswerMacs(t *testing.T) {
	for _, mac := range wrongMacs() {
		refuses(t, asks(), mac, asks().Tip)
		refuses(t, asks(), mac, asks().Tip+1)
	}
	for _, mac := range macs() {
		got, ok := Answer(asks(), mac, asks().Tip)
		if !ok || !bytes.Equal(got.Smac, mac) || !bytes.Equal(got.Tmac, asks().Smac) {
			t.Errorf("Answer by % x: %x, %v", mac, got, ok)
		}
	}
}

// P16.3: messages of all kinds; what is answered is a message, that goes to who asked, and is not answered again.
func TestAnswerMessages(t *testing.T) {
	for _, a := range messages() {
		for _, mac := range macs() {
			for _, ip := range []uint32{a.Tip, a.Sip, a.Tip + 1, 0, math.MaxUint32} {
				answers(t, a, mac, ip)
				got, ok := Answer(a, mac, ip)
				if !ok {
					continue
				}
				if _, e := PutArp(got); e != api.OK {
					t.Fatalf("PutArp of the answer %x: %d", got, e)
				}
				for _, other := range []uint32{got.Tip, got.Sip, ip} {
					refuses(t, got, mac, other)
					refuses(t, got, a.Smac, other)
				}
			}
		}
	}
}

// P16.3: Tmac of who asks does not count, and is not told.
func TestAnswerWhateverTmac(t *testing.T) {
	want, _ := Answer(asks(), run(1, 6), asks().Tip)
	for _, tmac := range append(macs(), wrongMacs()...) {
		a := asks()
		a.Tmac = tmac
		if got, ok := Answer(a, run(1, 6), a.Tip); !ok || !sameArp(got, want) {
			t.Errorf("with Tmac % x: %x, %v", tmac, got, ok)
		}
	}
}

// P16.3, R1: a message that no call made: a zero one asks for nothing, not for 0 either; one that was put together by hand is told as it is.
func TestAnswerOfNone(t *testing.T) {
	for _, ip := range ips {
		refuses(t, api.Arp{}, run(1, 6), ip)
		refuses(t, api.Arp{Tip: ip}, run(1, 6), ip)
	}
	for _, smac := range wrongMacs() {
		a := asks()
		a.Smac = smac
		answers(t, a, run(1, 6), a.Tip)
		refuses(t, a, run(1, 6), a.Tip+1)
	}
}
