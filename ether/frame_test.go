package ether

import (
	"bytes"
	"errors"
	"slices"
	"testing"

	"drawbridge/api"
)

// plain answers a frame each of whose bytes is another.
func plain() api.Frame {
	return api.Frame{Dst: []byte{1, 2, 3, 4, 5, 6}, Src: []byte{7, 8, 9, 10, 11, 12}, Type: 0x0d0e, Data: []byte{15, 16, 17}}
}

// puts tells of a Put that is not as the chapter has it.
func puts(t *testing.T, f api.Frame) {
	t.Helper()
	got, e := Put(f)
	if want, number := putOf(f); e != number || !bytes.Equal(got, want) {
		t.Fatalf("Put(%x) = % x, %d, not % x, %d", f, got, e, want, number)
	}
}

// gets tells of a Get that is not as the chapter has it.
func gets(t *testing.T, b []byte) {
	t.Helper()
	got, e := Get(b)
	if want, number := getOf(b); e != number || !sameFrame(got, want) {
		t.Fatalf("Get(% x) = %x, %d, not %x, %d", b, got, e, want, number)
	}
}

// P16.1: Put of whole frames, told byte by byte.
func TestPutExamples(t *testing.T) {
	for _, c := range []struct {
		f    api.Frame
		want []byte
	}{
		{plain(), []byte{1, 2, 3, 4, 5, 6, 7, 8, 9, 10, 11, 12, 13, 14, 15, 16, 17}},
		{api.Frame{Dst: run(1, 6), Src: run(7, 6), Type: 0x0d0e}, []byte{1, 2, 3, 4, 5, 6, 7, 8, 9, 10, 11, 12, 13, 14}},
		{api.Frame{Dst: run(1, 6), Src: run(7, 6), Type: 1, Data: []byte{9}}, []byte{1, 2, 3, 4, 5, 6, 7, 8, 9, 10, 11, 12, 0, 1, 9}},
		{api.Frame{Dst: make([]byte, 6), Src: make([]byte, 6)}, make([]byte, 14)},
		{
			api.Frame{Dst: []byte{255, 255, 255, 255, 255, 255}, Src: []byte{0x52, 0x54, 0x00, 0x12, 0x34, 0x56}, Type: api.TypeArp, Data: []byte{0, 1, 8, 0}},
			[]byte{0xff, 0xff, 0xff, 0xff, 0xff, 0xff, 0x52, 0x54, 0x00, 0x12, 0x34, 0x56, 0x08, 0x06, 0, 1, 8, 0},
		},
		{
			api.Frame{Dst: []byte{0x52, 0x54, 0x00, 0x12, 0x34, 0x56}, Src: []byte{0x52, 0x55, 10, 0, 2, 2}, Type: api.TypeIp, Data: []byte{0x45}},
			[]byte{0x52, 0x54, 0x00, 0x12, 0x34, 0x56, 0x52, 0x55, 10, 0, 2, 2, 0x08, 0x00, 0x45},
		},
	} {
		if got, e := Put(c.f); e != api.OK || !bytes.Equal(got, c.want) {
			t.Errorf("Put(%x) = % x, %d, not % x", c.f, got, e, c.want)
		}
		if got, e := Get(c.want); e != api.OK || !sameFrame(got, c.f) {
			t.Errorf("Get(% x) = %x, %d, not %x", c.want, got, e, c.f)
		}
	}
}

// P16.1: Put of addresses that have not 6 bytes, each alone and both.
func TestPutMacs(t *testing.T) {
	for _, mac := range wrongMacs() {
		for _, f := range []api.Frame{
			{Dst: mac, Src: run(7, 6), Type: api.TypeIp, Data: run(0, 50)},
			{Dst: run(1, 6), Src: mac, Type: api.TypeIp, Data: run(0, 50)},
			{Dst: mac, Src: mac, Type: api.TypeIp, Data: run(0, 50)},
		} {
			if got, e := Put(f); len(got) != 0 || e != api.ErrArg {
				t.Errorf("Put with addresses of %d and %d bytes: % x, %d", len(f.Dst), len(f.Src), got, e)
			}
		}
	}
	// Twelve bytes in both are not enough.
	for n := range 13 {
		f := api.Frame{Dst: run(1, n), Src: run(1+n, 12-n), Type: api.TypeIp}
		if got, e := Put(f); (e == api.OK) != (n == 6) || e != api.OK && (e != api.ErrArg || len(got) != 0) {
			t.Errorf("Put with addresses of %d and %d bytes: % x, %d", n, 12-n, got, e)
		}
	}
}

// P16.1: Put of each type, and of those that there are not.
func TestPutTypes(t *testing.T) {
	f := plain()
	for f.Type = -300; f.Type < 66000; f.Type++ {
		got, e := Put(f)
		if f.Type < 0 || f.Type > 65535 {
			if e != api.ErrArg || len(got) != 0 {
				t.Fatalf("Put with type %d: % x, %d", f.Type, got, e)
			}
		} else if e != api.OK || len(got) != 17 || int(got[12])*256+int(got[13]) != f.Type {
			t.Fatalf("Put with type %d: % x, %d", f.Type, got, e)
		}
	}
	for _, f.Type = range wrongTypes {
		if got, e := Put(f); e != api.ErrArg || len(got) != 0 {
			t.Errorf("Put with type %d: % x, %d", f.Type, got, e)
		}
	}
	for _, c := range []struct {
		kind int
		want api.Errno
	}{{-1, api.ErrArg}, {0, api.OK}, {65535, api.OK}, {65536, api.ErrArg}} {
		f.Type = c.kind
		if _, e := Put(f); e != c.want {
			t.Errorf("Put with type %d: %d", c.kind, e)
		}
	}
}

// P16.1: Put of Data of no bytes to too many.
func TestPutData(t *testing.T) {
	f := plain()
	for n := range 1600 {
		f.Data = run(n, n)
		got, e := Put(f)
		if n > 1500 {
			if e != api.ErrArg || len(got) != 0 {
				t.Fatalf("Put with %d bytes: %d bytes, %d", n, len(got), e)
			}
		} else if e != api.OK || len(got) != 14+n || !bytes.Equal(got[14:], f.Data) {
			t.Fatalf("Put with %d bytes: % x, %d", n, got, e)
		}
	}
	for _, n := range []int{1514, 1515, 2048, 65535, 65536, 65536 + 100, 1 << 20} {
		f.Data = make([]byte, n)
		if got, e := Put(f); e != api.ErrArg || len(got) != 0 {
			t.Errorf("Put with %d bytes: %d bytes, %d", n, len(got), e)
		}
	}
}

// P16.1: Put where one thing is wrong, several are, or none.
func TestPutSeveral(t *testing.T) {
	lists := append(wrongMacs(), run(1, 6))
	for _, dst := range lists {
		for _, src := range lists {
			for _, kind := range []int{-1, 0, api.TypeIp, 65535, 65536} {
				for _, n := range []int{0, 1, 1500, 1501} {
					puts(t, api.Frame{Dst: dst, Src: src, Type: kind, Data: run(3, n)})
				}
			}
		}
	}
	if got, e := Put(api.Frame{}); e != api.ErrArg || len(got) != 0 {
		t.Errorf("Put of a zero frame: % x, %d", got, e)
	}
}

// P16.1: Put of frames of all kinds.
func TestPutFrames(t *testing.T) {
	for _, f := range frames() {
		puts(t, f)
	}
}

// P16.1: Get of each number of bytes, from none to too many.
func TestGetSizes(t *testing.T) {
	b := text(3100, chance())
	for n := range 3100 {
		gets(t, b[:n])
		got, e := Get(b[:n])
		want := api.OK
		switch {
		case n < 14:
			want = api.ErrShort
		case n > 1514:
			want = api.ErrForm
		}
		if e != want {
			t.Fatalf("Get of %d bytes: %d, not %d", n, e, want)
		}
		if e != api.OK && !sameFrame(got, api.Frame{}) {
			t.Fatalf("Get of %d bytes: %x, %d", n, got, e)
		}
		if e == api.OK && len(got.Data) != n-14 {
			t.Fatalf("Get of %d bytes: %d bytes of Data", n, len(got.Data))
		}
	}
	for _, n := range []int{4096, 65535, 65536, 65536 + 13, 65536 + 14, 65536 + 60, 1 << 20} {
		if got, e := Get(make([]byte, n)); e != api.ErrForm || !sameFrame(got, api.Frame{}) {
			t.Errorf("Get of %d bytes: %d", n, e)
		}
	}
	for _, b := range [][]byte{nil, {}} {
		if got, e := Get(b); e != api.ErrShort || !sameFrame(got, api.Frame{}) {
			t.Errorf("Get of nothing: %x, %d", got, e)
		}
	}
}

// P16.1: which bytes are Dst, Src, Type and Data: each byte alone is another.
func TestGetParts(t *testing.T) {
	for at := range 40 {
		for _, x := range []byte{1, 128, 255} {
			b := make([]byte, 40)
			b[at] = x
			want := api.Frame{Dst: make([]byte, 6), Src: make([]byte, 6), Data: make([]byte, 26)}
			switch {
			case at < 6:
				want.Dst[at] = x
			case at < 12:
				want.Src[at-6] = x
			case at == 12:
				want.Type = 256 * int(x)
			case at == 13:
				want.Type = int(x)
			default:
				want.Data[at-14] = x
			}
			if got, e := Get(b); e != api.OK || !sameFrame(got, want) {
				t.Errorf("Get(% x) = %x, %d", b, got, e)
			}
		}
	}
}

// P16.1: Get of each type; whatever it is, that is a frame.
func TestGetTypes(t *testing.T) {
	b := make([]byte, 15)
	for x := range 65536 {
		b[12], b[13] = byte(x/256), byte(x%256)
		if got, e := Get(b); e != api.OK || got.Type != x {
			t.Fatalf("Get with type %d: %d, %d", x, got.Type, e)
		}
	}
}

// P16.1: a frame without Data.
func TestGetWithoutData(t *testing.T) {
	got, e := Get(run(1, 14))
	if want := (api.Frame{Dst: run(1, 6), Src: run(7, 6), Type: 0x0d0e}); e != api.OK || !sameFrame(got, want) {
		t.Errorf("Get = %x, %d", got, e)
	}
	if len(got.Data) != 0 {
		t.Errorf("Data are % x", got.Data)
	}
}

// P16.4: Get of Put is the frame, for the smallest and the greatest of everything; Put of Get are the bytes.
func TestGetOfPut(t *testing.T) {
	for _, f := range frames() {
		b, e := Put(f)
		if e != api.OK {
			t.Fatalf("Put(%x): %d", f, e)
		}
		got, e := Get(b)
		if e != api.OK || !sameFrame(got, f) {
			t.Fatalf("Get(Put(%x)) = %x, %d", f, got, e)
		}
		again, e := Put(got)
		if e != api.OK || !bytes.Equal(again, b) {
			t.Fatalf("Put(Get(% x)) = % x, %d", b, again, e)
		}
	}
	next := chance()
	for range 3000 {
		b := text(14+next()%1501, next)
		f, e := Get(b)
		if e != api.OK {
			t.Fatalf("Get of %d bytes: %d", len(b), e)
		}
		if again, e := Put(f); e != api.OK || !bytes.Equal(again, b) {
			t.Fatalf("Put(Get(% x)) = % x, %d", b, again, e)
		}
	}
}

// P16.4: two frames that differ have other bytes, wherever one ends and the next begins.
func TestPutTellsApart(t *testing.T) {
	f := plain()
	first, _ := Put(f)
	for name, change := range map[string]func(f *api.Frame){
		"Dst and Src": func(f *api.Frame) { f.Dst, f.Src = f.Src, f.Dst },
		"Type":        func(f *api.Frame) { f.Type = 0x0e0d },
		"Data":        func(f *api.Frame) { f.Data = f.Data[:2] },
		"more Data":   func(f *api.Frame) { f.Data = slices.Concat(f.Data, []byte{0}) },
	} {
		g := plain()
		change(&g)
		if second, e := Put(g); e != api.OK || bytes.Equal(first, second) {
			t.Errorf("with other %s: % x, %d", name, second, e)
		}
	}
}

// P16.1: why bytes are no frame is found by errors.Is, and told.
func TestWhyNoFrame(t *testing.T) {
	for _, c := range []struct {
		size int
		want error
		told string
	}{
		{0, errShort, "0 bytes are no frame: they are too few"},
		{13, errShort, "13 bytes are no frame: they are too few"},
		{1515, errLong, "1515 bytes are no frame: they are too many"},
	} {
		b, _ := roomy(make([]byte, c.size))
		_, err := frame(b)
		for _, why := range []error{errShort, errLong, errOther} {
			if errors.Is(err, why) != (why == c.want) {
				t.Errorf("%d bytes: %v", c.size, err)
			}
		}
		if err == nil || err.Error() != c.told {
			t.Errorf("%d bytes: %v", c.size, err)
		}
	}
	for _, size := range []int{14, 1514} {
		if _, err := frame(make([]byte, size)); err != nil {
			t.Error(err)
		}
	}
}
