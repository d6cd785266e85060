package dhcp

import (
	"bytes"
	"slices"
	"testing"

	"drawbridge/api"
)

// gets tells of a Get that is not as the chapter has it.
func gets(t *testing.T, b []byte) {
	t.Helper()
	got, e := Get(b)
	if want, number := getOf(b); e != number || !same(got, want) {
		t.Fatalf("Get(% x) = %+v, %d, not %+v, %d", b, got, e, want, number)
	}
}

// answersGet tells of a Get that does not answer a number; all but OK come without a message.
func answersGet(t *testing.T, b []byte, want api.Errno) {
	t.Helper()
	got, e := Get(b)
	if e != want || e != api.OK && !same(got, api.Dhcp{}) {
		t.Fatalf("Get(% x) = %+v, %d, not %d", b, got, e, want)
	}
	gets(t, b)
}

// written answers the bytes of a message.
func written(d api.Dhcp) []byte {
	b, _ := putOf(d)
	return b
}

// optioned answers the head of a message, and these options.
func optioned(options ...[]byte) []byte {
	return append(headWritten(plain(1)), slices.Concat(options...)...)
}

// option answers the bytes of an option that tells these.
func option(number byte, tells []byte) []byte {
	return append([]byte{number, byte(len(tells))}, tells...)
}

// typed is the option of a type, and the end is that of all.
func typed(kind byte) []byte { return option(53, []byte{kind}) }
func end() []byte            { return []byte{255} }

// tells tells of a Get that answers another message than plain with these changes.
func tells(t *testing.T, b []byte, change func(d *api.Dhcp)) {
	t.Helper()
	want := plain(1)
	change(&want)
	got, e := Get(b)
	if e != api.OK || !same(got, want) {
		t.Fatalf("Get with % x = %+v, %d, not %+v", b[240:], got, e, want)
	}
	gets(t, b)
}

// as answers a change of one number.
func as(n placed, x uint32) func(d *api.Dhcp) {
	return func(d *api.Dhcp) { *n.at(d) = x }
}

// ofType answers a change of the type.
func ofType(kind int) func(d *api.Dhcp) {
	return func(d *api.Dhcp) { d.Type = kind }
}

// P20.2: of less than 240 bytes, whatever they are.
func TestGetFewBytes(t *testing.T) {
	answersGet(t, nil, api.ErrShort)
	answersGet(t, []byte{}, api.ErrShort)
	for n := range 240 {
		for _, x := range []byte{0, 1, 2, 53, 255} {
			answersGet(t, bytes.Repeat([]byte{x}, n), api.ErrShort)
		}
		for _, d := range []api.Dhcp{full(), least()} {
			answersGet(t, written(d)[:n], api.ErrShort)
			answersGet(t, written(d)[240-n:240], api.ErrShort)
		}
	}
}

// P20.2: of 240 bytes and more: without a type they are no message; with one the end may be missing.
func TestGetSizes(t *testing.T) {
	for _, d := range []api.Dhcp{plain(2), full(), least(), greatest()} {
		b := written(d)
		for n := 240; n <= len(b); n++ {
			whole := (n-243)%6 == 0 && n >= 243 || n == len(b)
			want := api.ErrForm
			if whole {
				want = api.OK
			}
			answersGet(t, b[:n], want)
		}
		if got, e := Get(b[:len(b)-1]); e != api.OK || !same(got, d) {
			t.Errorf("Get without an end = %+v, %d", got, e)
		}
	}
}

// P20.2: each byte of the 240 another: of those that are looked at just one may stand there (of Op two), and those of the numbers are in the message; all else is not looked at.
func TestGetHead(t *testing.T) {
	fixed := map[int][]int{0: {1, 2}, 1: {1}, 2: {6}, 236: {0x63}, 237: {0x82}, 238: {0x53}, 239: {0x63}}
	b := written(full())
	for at := range 240 {
		before := b[at]
		for x := range 256 {
			b[at] = byte(x)
			want := full()
			place := func(number *uint32, from int) {
				if at >= from && at < from+4 {
					up := 8 * (from + 3 - at)
					*number = *number&^(255<<up) | uint32(x)<<up
				}
			}
			place(&want.Xid, 4)
			place(&want.Ci, 12)
			place(&want.Yi, 16)
			if at >= 28 && at < 34 {
				want.Mac[at-28] = byte(x)
			}
			if at == 0 {
				want.Op = x
			}
			number := api.OK
			if may, ok := fixed[at]; ok && !slices.Contains(may, x) {
				number, want = api.ErrForm, api.Dhcp{}
			}
			if got, e := Get(b); e != number || !same(got, want) {
				t.Fatalf("Get with byte %d %d = %+v, %d, not %+v, %d", at, x, got, e, want, number)
			}
			gets(t, b)
		}
		b[at] = before
	}
}

// P20.2: all bytes that are not looked at are others at once.
func TestGetNotLookedAt(t *testing.T) {
	next := chance()
	for range 2000 {
		d := byChance(next)
		b := written(d)
		for _, part := range [][2]int{{3, 4}, {8, 12}, {20, 28}, {34, 236}} {
			copy(b[part[0]:part[1]], text(part[1]-part[0], next))
		}
		if got, e := Get(b); e != api.OK || !same(got, d) {
			t.Fatalf("Get(% x) = %+v, %d, not %+v", b, got, e, d)
		}
	}
}

// P20.2: several bytes of the head are wrong at once, in places that might make up for one another.
func TestGetHeadSeveral(t *testing.T) {
	for _, places := range [][]int{{0, 1, 236}, {1, 2}, {0, 2}, {236, 237}, {238, 239}, {1, 2, 236, 237, 238, 239}, {0, 1, 2, 236, 237, 238, 239}} {
		for _, x := range []byte{0, 1, 2, 3, 6, 0x53, 0x63, 0x82, 255} {
			b := written(full())
			for _, at := range places {
				b[at] = x
			}
			answersGet(t, b, api.ErrForm)
		}
	}
	swapped := written(full())
	swapped[1], swapped[2] = 6, 1
	answersGet(t, swapped, api.ErrForm)
	turned := written(full())
	slices.Reverse(turned[236:240])
	answersGet(t, turned, api.ErrForm)
}

// P20.2: no options at all, only their end, only noughts: without a type there is no message.
func TestGetNoOptions(t *testing.T) {
	answersGet(t, optioned(), api.ErrForm)
	answersGet(t, optioned(end()), api.ErrForm)
	for n := range 20 {
		answersGet(t, optioned(make([]byte, n)), api.ErrForm)
		answersGet(t, optioned(make([]byte, n), end()), api.ErrForm)
		answersGet(t, optioned(end(), make([]byte, n)), api.ErrForm)
	}
	for _, o := range optional() {
		answersGet(t, optioned(option(o.option, run(1, 4)), end()), api.ErrForm)
	}
}

// P20.2: the end: none, one, and bytes behind it, which are not looked at.
func TestGetEnd(t *testing.T) {
	want := option(50, []byte{10, 0, 2, 20})
	told := as(optional()[0], 0x0a000214)
	tells(t, optioned(typed(1), want), told)
	tells(t, optioned(typed(1), want, end()), told)
	tells(t, optioned(typed(1), end(), want), func(*api.Dhcp) {})
	answersGet(t, optioned(end(), typed(1), want), api.ErrForm)
	answersGet(t, optioned(want, end(), typed(1)), api.ErrForm)
	for _, behind := range [][]byte{{1}, {53}, {53, 1}, {53, 1, 2}, {50, 200, 1}, {255}, {255, 255}, {0, 0, 0}, run(0, 256), option(54, run(1, 4))} {
		tells(t, optioned(typed(1), want, end(), behind), told)
		tells(t, optioned(want, typed(1), end(), behind), told)
		answersGet(t, optioned(want, end(), behind), api.ErrForm)
	}
	next := chance()
	for range 300 {
		tells(t, optioned(typed(1), want, end(), text(next()%300, next)), told)
	}
}

// P20.2: a byte 255 within an option does not end anything.
func TestGetEndWithin(t *testing.T) {
	tells(t, optioned(option(99, []byte{255, 255, 0}), option(50, []byte{255, 255, 255, 255}), typed(1), end()), as(optional()[0], 0xffffffff))
	tells(t, optioned(option(99, bytes.Repeat([]byte{255}, 255)), typed(1), end()), func(*api.Dhcp) {})
	tells(t, optioned([]byte{99, 0}, typed(1), end()), func(*api.Dhcp) {})
	// How many bytes follow is 255, and one fewer does.
	answersGet(t, optioned(typed(1), []byte{99, 255}, make([]byte, 254)), api.ErrForm)
	answersGet(t, optioned(typed(1), []byte{99, 255}, make([]byte, 255)), api.OK)
}

// P20.2: noughts ahead of, between and behind options.
func TestGetNoughts(t *testing.T) {
	o := optional()
	for ahead := range 6 {
		for between := range 6 {
			for behind := range 6 {
				for _, last := range [][]byte{nil, end()} {
					b := optioned(
						make([]byte, ahead), typed(1), make([]byte, between), option(51, []byte{0, 0, 0, 9}), make([]byte, between), option(3, []byte{0, 0, 0, 0, 7}),
						make([]byte, behind), last,
					)
					tells(t, b, as(o[2], 9))
				}
			}
		}
	}
	tells(t, optioned(make([]byte, 3), option(54, []byte{0, 1, 0, 0}), []byte{0}, typed(1), []byte{0}), as(o[1], 0x10000))
	// A nought is no size where an option begins: it goes alone.
	tells(t, optioned([]byte{0}, typed(1), []byte{0, 1, 4, 1, 2, 3, 4}), as(o[3], 0x01020304))
}

// P20.2: an option whose size is missing, one of 0 bytes, of just all that there are, of one more, of more.
func TestGetSizesOfOptions(t *testing.T) {
	for number := 1; number < 255; number++ {
		n := byte(number)
		answersGet(t, optioned(typed(1), []byte{n}), api.ErrForm)
		answersGet(t, optioned(typed(1), make([]byte, 3), []byte{n}), api.ErrForm)
		answersGet(t, optioned(typed(1), []byte{n, 0}), api.OK)
		for _, size := range []int{0, 1, 2, 3, 4, 5, 7, 8, 9, 100, 127, 128, 254, 255} {
			there := []byte(nil)
			if size > 0 {
				there = run(1, size-1)
			}
			whole := optioned(typed(1), []byte{n, byte(size)}, run(1, size))
			answersGet(t, whole, api.OK)
			answersGet(t, append(whole, 255), api.OK)
			answersGet(t, append(whole, 0), api.OK)
			if size > 0 {
				answersGet(t, optioned(typed(1), []byte{n, byte(size)}, there), api.ErrForm)
				answersGet(t, optioned(typed(1), []byte{n, byte(size)}), api.ErrForm)
				answersGet(t, optioned([]byte{n, byte(size)}, there), api.ErrForm)
			}
		}
	}
}

// P20.2: bytes that are no options are so behind all that counts, too, and ahead of it.
func TestGetNoOptionsBehind(t *testing.T) {
	b := written(full())
	all := b[:len(b)-1]
	answersGet(t, all, api.OK)
	for _, bad := range [][]byte{{1}, {53}, {12, 1}, {12, 4, 1, 2, 3}, {200, 255, 1}, {254}, {53, 1}} {
		answersGet(t, append(bytes.Clone(all), bad...), api.ErrForm)
		answersGet(t, append(bytes.Clone(b), bad...), api.OK)
		answersGet(t, optioned(bad), api.ErrForm)
	}
}

// P20.2: each option that is known of each size up to 20: of the four just one of four bytes counts, of 3 and 6 the first four bytes of at least four.
func TestGetEachOption(t *testing.T) {
	for _, o := range optional() {
		for size := range 21 {
			b := optioned(typed(1), option(o.option, run(0x81, size)), end())
			longer := o.option == 3 || o.option == 6
			if size == 4 || longer && size > 4 {
				tells(t, b, as(o, 0x81828384))
			} else {
				tells(t, b, func(*api.Dhcp) {})
			}
		}
		for _, size := range []int{252, 255} {
			b := optioned(option(o.option, run(0x41, size)), typed(1))
			if o.option == 3 || o.option == 6 {
				tells(t, b, as(o, 0x41424344))
			} else {
				tells(t, b, func(*api.Dhcp) {})
			}
		}
		for _, x := range append(edges(), 0) {
			tells(t, optioned(option(o.option, digits(int(x), 4)), typed(1), end()), as(o, x))
		}
	}
}

// P20.2: two of one number: the first too short or too long, and the second right; both right; one of them 0.
func TestGetTwice(t *testing.T) {
	for _, o := range optional() {
		longer := o.option == 3 || o.option == 6
		right, other := option(o.option, run(0x21, 4)), option(o.option, run(0x31, 4))
		for _, size := range []int{0, 1, 2, 3} {
			short := option(o.option, run(0x51, size))
			tells(t, optioned(short, right, typed(1)), as(o, 0x21222324))
			tells(t, optioned(right, short, typed(1)), as(o, 0x21222324))
			tells(t, optioned(typed(1), short, short, right, other), as(o, 0x21222324))
		}
		for _, size := range []int{5, 8, 12} {
			long := option(o.option, run(0x61, size))
			want := uint32(0x21222324)
			if longer {
				want = 0x61626364
			}
			tells(t, optioned(long, right, typed(1)), as(o, want))
			tells(t, optioned(right, long, typed(1)), as(o, 0x21222324))
		}
		tells(t, optioned(right, other, typed(1)), as(o, 0x21222324))
		tells(t, optioned(other, right, typed(1)), as(o, 0x31323334))
		tells(t, optioned(right, typed(1), other), as(o, 0x21222324))
		// What is told as 0 is told, and the first of both counts.
		tells(t, optioned(option(o.option, make([]byte, 4)), right, typed(1)), as(o, 0))
		tells(t, optioned(right, option(o.option, make([]byte, 4)), typed(1)), as(o, 0x21222324))
	}
}

// P20.2: Type through all values, missing, of another size, told twice.
func TestGetType(t *testing.T) {
	for x := range 256 {
		want := api.ErrForm
		if x >= 1 && x <= 8 {
			want = api.OK
			tells(t, optioned(typed(byte(x)), end()), ofType(x))
		}
		answersGet(t, optioned(typed(byte(x)), end()), want)
		answersGet(t, optioned(typed(byte(x)), typed(1), end()), want)
		answersGet(t, optioned(typed(1), typed(byte(x)), end()), api.OK)
		answersGet(t, optioned(typed(byte(x)), []byte{0}, typed(8)), want)
	}
	tells(t, optioned(typed(8), typed(1)), ofType(8))
	tells(t, optioned(typed(3), option(50, run(1, 4)), typed(5)), func(d *api.Dhcp) { d.Type, d.Want = 3, 0x01020304 })
	for size := range 20 {
		o := option(53, bytes.Repeat([]byte{2}, size))
		want := api.ErrForm
		if size == 1 {
			want = api.OK
		}
		answersGet(t, optioned(o, end()), want)
		if size != 1 {
			tells(t, optioned(o, typed(7)), ofType(7))
			tells(t, optioned(typed(7), o), ofType(7))
		}
	}
}

// P20.2: numbers that are not known, of the sizes that the known ones have, say nothing.
func TestGetUnknown(t *testing.T) {
	known := []int{0, 1, 3, 6, 50, 51, 53, 54, 255}
	for number := range 256 {
		if slices.Contains(known, number) {
			continue
		}
		for _, size := range []int{0, 1, 4, 8} {
			o := option(byte(number), run(2, size))
			tells(t, optioned(o, typed(1), end()), func(*api.Dhcp) {})
			tells(t, optioned(typed(1), o, o), func(*api.Dhcp) {})
			answersGet(t, optioned(o, end()), api.ErrForm)
		}
	}
}

// P20.2: options in each order, and whatever stands between them, tell the same.
func TestGetOrders(t *testing.T) {
	next := chance()
	for range 3000 {
		d := byChance(next)
		list := [][]byte{typed(byte(d.Type))}
		for _, o := range optional() {
			if x := *o.at(&d); x != 0 || next()%2 == 0 {
				list = append(list, option(o.option, digits(int(x), 4)))
			}
		}
		for range next() % 4 {
			list = append(list, option(byte(100+next()%100), text(next()%10, next)), make([]byte, next()%3))
		}
		for i := range list {
			j := i + next()%(len(list)-i)
			list[i], list[j] = list[j], list[i]
		}
		b := append(headWritten(d), slices.Concat(list...)...)
		if next()%2 == 0 {
			b = append(b, 255)
		}
		if got, e := Get(b); e != api.OK || !same(got, d) {
			t.Fatalf("Get(% x) = %+v, %d, not %+v", b, got, e, d)
		}
	}
}

// P20.2: which of two reasons comes first: too few bytes, whatever they are; all the others are one number.
func TestGetReasons(t *testing.T) {
	for _, spoil := range []func(b []byte){
		func(b []byte) { b[0] = 3 },
		func(b []byte) { b[1] = 2 },
		func(b []byte) { b[2] = 5 },
		func(b []byte) { b[236] = 0 },
	} {
		b := written(full())
		spoil(b)
		answersGet(t, b, api.ErrForm)
		answersGet(t, b[:239], api.ErrShort)
		answersGet(t, b[:240], api.ErrForm)
		answersGet(t, append(bytes.Clone(b[:240]), 53), api.ErrForm)
		answersGet(t, append(bytes.Clone(b[:240]), 53, 1, 9), api.ErrForm)
		answersGet(t, append(bytes.Clone(b[:240]), 53, 1, 9, 1), api.ErrForm)
	}
	answersGet(t, optioned(typed(9), []byte{1}), api.ErrForm)
	answersGet(t, optioned(typed(0), []byte{1, 5, 1}), api.ErrForm)
}

// P20.2: many options, and many bytes of all kinds, are gone through to their end.
func TestGetMany(t *testing.T) {
	for _, many := range []int{1000, 70000} {
		for _, o := range [][]byte{{0}, {99, 0}, {50, 3, 1, 2, 3}, {53, 0}, option(12, run(0, 255))} {
			b := optioned(bytes.Repeat(o, many), typed(6), end())
			tells(t, b, ofType(6))
			answersGet(t, b[:len(b)-4], api.ErrForm)
		}
	}
}

// P20.3: Get of Put is the message.
func TestGetOfPut(t *testing.T) {
	list := messages()
	for _, n := range longs() {
		for _, x := range append(edges(), 0) {
			for _, d := range []api.Dhcp{least(), full(), greatest()} {
				*n.at(&d) = x
				list = append(list, d)
			}
		}
	}
	for op := 1; op <= 2; op++ {
		for kind := 1; kind <= 8; kind++ {
			d := full()
			d.Op, d.Type = op, kind
			list = append(list, d)
		}
	}
	for _, d := range list {
		b, e := Put(d)
		got, f := Get(b)
		if e != api.OK || f != api.OK || !same(got, d) {
			t.Fatalf("Get of Put of %+v: %+v, %d, %d", d, got, e, f)
		}
		// What is put again has the same bytes.
		if again, e := Put(got); e != api.OK || !bytes.Equal(again, b) {
			t.Fatalf("Put of Get of % x: % x, %d", b, again, e)
		}
	}
}
