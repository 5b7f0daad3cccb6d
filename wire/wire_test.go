package wire

import (
	"bytes"
	"math/rand"
	"slices"
	"testing"

	"fourwatch/api"
)

func TestP6_1Kind(t *testing.T) {
	for kind := 1; kind <= 5; kind++ {
		accept(t, api.Message{Kind: kind, From: 1, Frame: 2, Vals: []int{3}})
	}
	// A kind is looked at whole, not only in the byte that it is told in.
	for _, kind := range []int{0, 6, -1, 7, 87, 255, 256, 257, 261, -255, 1<<32 + 1, top, low, low + 1} {
		refuse(t, api.Message{Kind: kind, From: 1, Frame: 2, Vals: []int{3}}, api.ErrKind)
	}
}

func TestP6_1From(t *testing.T) {
	for from := 0; from <= 3; from++ {
		accept(t, api.Message{Kind: 1, From: from, Frame: 2, Vals: []int{3}})
	}
	for _, from := range []int{-1, 4, 5, 255, 256, 259, -256, 1 << 32, top, low} {
		refuse(t, api.Message{Kind: 1, From: from, Frame: 2, Vals: []int{3}}, api.ErrRange)
	}
}

func TestP6_1Frame(t *testing.T) {
	for _, frame := range []int{0, 1, 255, 256, 1<<16 - 1, 1 << 24, 1<<31 - 2, 1<<31 - 1} {
		accept(t, api.Message{Kind: 1, Frame: frame, Vals: []int{3}})
	}
	for _, frame := range []int{-1, 1 << 31, 1<<31 + 1, 1<<32 - 1, 1 << 32, 1<<32 + 7, -1 << 31, -1 << 32, top, low} {
		refuse(t, api.Message{Kind: 1, Frame: frame, Vals: []int{3}}, api.ErrRange)
	}
}

func TestP6_1Vals(t *testing.T) {
	accept(t, api.Message{Kind: 1})
	accept(t, api.Message{Kind: 1, Vals: []int{}})
	for n := range api.MaxVals + 1 {
		accept(t, api.Message{Kind: 5, From: 3, Frame: 9, Vals: numbers(n)})
	}
	for _, n := range []int{api.MaxVals + 1, 26, 255, 256, 257, 256 + 24, 100000} {
		refuse(t, api.Message{Kind: 5, From: 3, Frame: 9, Vals: numbers(n)}, api.ErrFull)
	}
	// What stands behind the list's end is no part of it.
	accept(t, api.Message{Kind: 5, Vals: numbers(100)[:api.MaxVals]})
}

func TestP6_1Order(t *testing.T) {
	many := make([]int, api.MaxVals+1)
	for _, c := range []struct {
		m    api.Message
		want api.Errno
	}{
		{api.Message{Kind: 0, From: 4, Frame: -1, Vals: many}, api.ErrKind},
		{api.Message{Kind: 6, From: -1}, api.ErrKind},
		{api.Message{Kind: 6, Frame: 1 << 31}, api.ErrKind},
		{api.Message{Kind: 0, Vals: many}, api.ErrKind},
		{api.Message{Kind: 1, From: 4, Frame: -1, Vals: many}, api.ErrRange},
		{api.Message{Kind: 1, From: -1, Vals: many}, api.ErrRange},
		{api.Message{Kind: 5, Frame: 1 << 31, Vals: many}, api.ErrRange},
		{api.Message{Kind: 5, From: 3, Frame: 1<<31 - 1, Vals: many}, api.ErrFull},
	} {
		refuse(t, c.m, c.want)
	}
}

func TestP6_1AllTogether(t *testing.T) {
	for _, kind := range []int{low, -1, 0, 1, 3, 5, 6, top} {
		for _, from := range []int{low, -1, 0, 2, 3, 4, top} {
			for _, frame := range []int{low, -1, 0, 258, 1<<31 - 1, 1 << 31, top} {
				for _, n := range []int{0, 1, 24, 25} {
					m := api.Message{Kind: kind, From: from, Frame: frame, Vals: numbers(n)}
					if want := toldCheck(m); want != api.OK {
						refuse(t, m, want)
					} else {
						accept(t, m)
					}
				}
			}
		}
	}
}

// known are messages and their bytes, written out.
func known() []struct {
	m    api.Message
	want string
} {
	return []struct {
		m    api.Message
		want string
	}{
		{
			api.Message{Kind: 1, From: 0, Frame: 0},
			"W\x01\x00\x00\x00\x00\x00\x00" + "\x02\x2E\xB6\x9C",
		}, {
			api.Message{Kind: api.KindReading, From: 0, Frame: 7, Vals: []int{1, -1, api.One}},
			"W\x01\x00\x00\x00\x00\x07\x03" + "\x00\x00\x00\x00\x00\x00\x00\x01" + "\xFF\xFF\xFF\xFF\xFF\xFF\xFF\xFF" +
				"\x00\x00\x00\x01\x00\x00\x00\x00" + "\x18\xD8\xC2\x07",
		}, {
			api.Message{Kind: api.KindRelay, From: 3, Frame: 0x01020304, Vals: []int{0x0102030405060708}},
			"W\x02\x03\x01\x02\x03\x04\x01" + "\x01\x02\x03\x04\x05\x06\x07\x08" + "\x80\x2D\xCB\xE1",
		}, {
			api.Message{Kind: api.KindVote, From: 2, Frame: 258, Vals: []int{-2}},
			"W\x03\x02\x00\x00\x01\x02\x01" + "\xFF\xFF\xFF\xFF\xFF\xFF\xFF\xFE" + "\xCD\xFE\x69\xC8",
		}, {
			api.Message{Kind: api.KindClock, From: 1, Frame: 1<<31 - 1, Vals: []int{top, low}},
			"W\x04\x01\x7F\xFF\xFF\xFF\x02" + "\x7F\xFF\xFF\xFF\xFF\xFF\xFF\xFF" + "\x80\x00\x00\x00\x00\x00\x00\x00" +
				"\x88\x6F\xC6\x1C",
		}, {
			api.Message{Kind: api.KindState, From: 3, Frame: 255, Vals: []int{0}},
			"W\x05\x03\x00\x00\x00\xFF\x01" + "\x00\x00\x00\x00\x00\x00\x00\x00" + "\x43\x23\xC1\x60",
		},
	}
}

func TestP6_2KnownMessages(t *testing.T) {
	for _, c := range known() {
		if b, errno := Encode(c.m); errno != api.OK || string(b) != c.want {
			t.Errorf("Encode(%v) = %x, %d, want %x", c.m, b, errno, c.want)
		}
	}
}

func TestP6_2HowManyBytes(t *testing.T) {
	for n := range api.MaxVals + 1 {
		b, errno := Encode(api.Message{Kind: 2, Vals: numbers(n)})
		if errno != api.OK || len(b) != 12+8*n || int(b[7]) != n {
			t.Errorf("of %d Vals: %d bytes, %d", n, len(b), errno)
		}
	}
}

func TestP6_2AsTold(t *testing.T) {
	r := rand.New(rand.NewSource(62))
	for range 20000 {
		accept(t, rightMessage(r))
	}
}

func TestP6_2MessageStays(t *testing.T) {
	for _, n := range []int{0, 1, 3, 24, 25} {
		for _, kind := range []int{1, 9} {
			whole, vals := withRoom(numbers(n), 71, 72, 73)
			before := slices.Clone(whole)
			Encode(api.Message{Kind: kind, From: 2, Frame: 3, Vals: vals})
			if !slices.Equal(whole, before) {
				t.Errorf("of %d Vals: changed to %v, was %v", n, whole, before)
			}
		}
	}
}

func TestP6_2AnswersAreNewMemory(t *testing.T) {
	for _, c := range known() {
		first, _ := Encode(c.m)
		second, _ := Encode(c.m)
		fill(first, 'x')
		if string(second) != c.want {
			t.Errorf("two answers of Encode(%v) share: %x", c.m, second)
		}
		if third, errno := Encode(c.m); errno != api.OK || string(third) != c.want {
			t.Errorf("asked again, Encode(%v) = %x, %d", c.m, third, errno)
		}
		fill(c.m.Vals, 5)
		if string(second) != c.want {
			t.Errorf("what Encode answered went with what was handed in: %x", second)
		}
	}
}

func TestP6_3KnownMessages(t *testing.T) {
	for _, c := range known() {
		if m, errno := Decode([]byte(c.want)); errno != api.OK || !same(m, c.m) {
			t.Errorf("Decode(%x) = %v, %d, want %v", c.want, m, errno, c.m)
		}
	}
}

func TestP6_3BackAndForth(t *testing.T) {
	r := rand.New(rand.NewSource(63))
	for range 20000 {
		m := rightMessage(r)
		b, _ := Encode(m)
		got, errno := Decode(b)
		if errno != api.OK || !same(got, m) {
			t.Fatalf("Decode(%x) = %v, %d, want %v", b, got, errno, m)
		}
	}
}

func TestP6_3TooLong(t *testing.T) {
	// All that is wrong further down the order does not count.
	for _, n := range []int{221, 222, 228, 236, 1000, 1 << 20} {
		decodes(t, make([]byte, n), api.ErrLong)
		b := make([]byte, n-4)
		copy(b, "W\x01\x00\x00\x00\x00\x00\x18")
		decodes(t, toldSeal(b), api.ErrLong)
	}
	// A count of 27 would fit 228 bytes.
	decodes(t, toldBytes(api.Message{Kind: 1, Vals: numbers(27)}), api.ErrLong)
	decodes(t, sealed(221, 1, 0, 0, 24), api.ErrLong)
	decodes(t, sealed(221, 0, 9, 1<<31, 25), api.ErrLong)
}

func TestP6_3JustMaxBytes(t *testing.T) {
	decodes(t, make([]byte, 220), api.ErrForm)
	wrong := sealed(220, 1, 0, 0, 24)
	wrong[219] ^= 1
	decodes(t, wrong, api.ErrSum)
	decodes(t, sealed(220, 1, 0, 0, 24), api.ErrForm)
	decodes(t, sealed(220, 1, 0, 0, 25), api.ErrFull)
	// A count of 26 asks for just 220 bytes.
	decodes(t, toldBytes(api.Message{Kind: 1, Vals: numbers(26)}), api.ErrFull)
}

func TestP6_3FewerThanTwelve(t *testing.T) {
	decodes(t, nil, api.ErrForm)
	whole := toldBytes(api.Message{Kind: 1})
	for n := range 12 {
		decodes(t, make([]byte, n), api.ErrForm)
		// Spare room behind the bytes is no part of them.
		decodes(t, whole[:n], api.ErrForm)
		if n >= 4 {
			decodes(t, toldSeal([]byte("W\x01\x00\x00\x00\x00\x00")[:n-4]), api.ErrForm)
		}
	}
	decodes(t, whole, api.OK)
	decodes(t, make([]byte, 12), api.ErrForm)
}

func TestP6_3FirstByte(t *testing.T) {
	for c := range 256 {
		b := []byte("W\x01\x00\x00\x00\x00\x00\x00")
		b[0] = byte(c)
		want := api.ErrForm
		if c == 'W' {
			want = api.OK
		}
		decodes(t, toldSeal(b), want)
	}
}

func TestP6_3AnyOneBitTurned(t *testing.T) {
	for _, m := range []api.Message{{Kind: 1}, {Kind: 3, From: 2, Frame: 258, Vals: []int{-2}}, {Kind: 5, From: 3, Frame: 1<<31 - 1, Vals: numbers(24)}} {
		b := toldBytes(m)
		for i := range 8 * len(b) {
			turned := slices.Clone(b)
			turned[i/8] ^= 1 << (i % 8)
			want := api.ErrSum
			if i < 8 {
				want = api.ErrForm
			}
			decodes(t, turned, want)
		}
	}
}

func TestP6_3WrongSums(t *testing.T) {
	b := toldBytes(api.Message{Kind: 3, From: 2, Frame: 258, Vals: []int{-2}})
	n := len(b)
	other := slices.Clone(b)
	slices.Reverse(other[n-4:])
	decodes(t, other, api.ErrSum)
	for n := 12; n < len(b); n++ {
		decodes(t, b[:n], api.ErrSum)
	}
	decodes(t, append(slices.Clone(b), 0), api.ErrSum)
	decodes(t, append(slices.Clone(b), 0, 0, 0, 0), api.ErrSum)
	decodes(t, []byte("W\x01\x00\x00\x00\x00\x00\x00\x00\x00\x00\x00"), api.ErrSum)
	decodes(t, []byte("W\x01\x00\x00\x00\x00\x00\x00\xFF\xFF\xFF\xFF"), api.ErrSum)
}

// Each count with each number of bytes that may be, rightly sealed.
func TestP6_3CountAndBytes(t *testing.T) {
	for n := 12; n <= 220; n++ {
		for count := range 256 {
			want := api.ErrForm
			switch {
			case count > 24:
				want = api.ErrFull
			case n == 12+8*count:
				want = api.OK
			}
			decodes(t, sealed(n, 1, 0, 0, count), want)
		}
	}
}

func TestP6_3WrongMessages(t *testing.T) {
	for c := range 256 {
		want := api.ErrKind
		if c >= 1 && c <= 5 {
			want = api.OK
		}
		decodes(t, sealed(20, c, 0, 0, 1), want)
		want = api.ErrRange
		if c <= 3 {
			want = api.OK
		}
		decodes(t, sealed(20, 1, c, 0, 1), want)
		want = api.ErrRange
		if c < 128 {
			want = api.OK
		}
		decodes(t, sealed(20, 1, 0, c<<24, 1), want)
		decodes(t, sealed(20, 1, 0, c<<24+0xFFFFFF, 1), want)
	}
	decodes(t, sealed(12, 5, 3, 1<<31-1, 0), api.OK)
	decodes(t, sealed(12, 5, 3, 1<<31, 0), api.ErrRange)
	decodes(t, sealed(12, 5, 3, 1<<32-1, 0), api.ErrRange)
}

func TestP6_3Order(t *testing.T) {
	notW := func(b []byte) []byte {
		b = slices.Clone(b[:len(b)-4])
		b[0] = 'V'
		return toldSeal(b)
	}
	unsealed := func(b []byte) []byte {
		b = slices.Clone(b)
		b[len(b)-1] ^= 0x80
		return b
	}
	for _, c := range []struct {
		b    []byte
		want api.Errno
	}{
		{unsealed(notW(sealed(221, 0, 4, 1<<31, 25))), api.ErrLong},
		{notW(sealed(221, 1, 0, 0, 0)), api.ErrLong},
		{unsealed(sealed(221, 1, 0, 0, 0)), api.ErrLong},
		{sealed(221, 0, 0, 0, 0), api.ErrLong},
		{unsealed(notW(sealed(220, 0, 4, 1<<31, 25))), api.ErrForm},
		{notW(sealed(20, 1, 0, 0, 25)), api.ErrForm},
		{notW(sealed(12, 0, 0, 0, 0)), api.ErrForm},
		{unsealed(notW(sealed(12, 1, 0, 0, 0))), api.ErrForm},
		{unsealed([]byte("W\x00\x09\x80\x00\x00\x00\x19\x00\x00\x00")), api.ErrForm},
		{unsealed(sealed(13, 0, 4, 1<<31, 25)), api.ErrSum},
		{unsealed(sealed(12, 1, 0, 0, 25)), api.ErrSum},
		{unsealed(sealed(12, 1, 0, 0, 1)), api.ErrSum},
		{unsealed(sealed(12, 0, 0, 0, 0)), api.ErrSum},
		{unsealed(sealed(12, 1, 4, 0, 0)), api.ErrSum},
		{sealed(13, 0, 4, 1<<31, 25), api.ErrFull},
		{sealed(212, 0, 4, 1<<31, 25), api.ErrFull},
		{sealed(13, 0, 4, 1<<31, 24), api.ErrForm},
		{sealed(12, 0, 0, 0, 1), api.ErrForm},
		{sealed(20, 1, 4, 0, 0), api.ErrForm},
		{sealed(20, 1, 0, 1<<31, 2), api.ErrForm},
		{sealed(12, 0, 4, 1<<31, 0), api.ErrKind},
		{sealed(204, 6, 0, 1<<31, 24), api.ErrKind},
		{sealed(204, 5, 4, 1<<31, 24), api.ErrRange},
	} {
		decodes(t, c.b, c.want)
	}
}

func TestP6_3AsTold(t *testing.T) {
	r := rand.New(rand.NewSource(64))
	seen := map[api.Errno]int{}
	for range 60000 {
		b := strangeBytes(r)
		want, wanted := toldDecode(b)
		m, errno := Decode(b)
		if errno != wanted || !same(m, want) {
			t.Fatalf("Decode(%x) = %v, %d, want %v, %d", b, m, errno, want, wanted)
		}
		if errno == api.OK {
			if again, _ := Encode(m); !bytes.Equal(again, b) {
				t.Fatalf("Encode(Decode(%x)) = %x", b, again)
			}
		}
		seen[errno]++
	}
	for _, errno := range []api.Errno{api.OK, api.ErrLong, api.ErrForm, api.ErrSum, api.ErrFull, api.ErrKind, api.ErrRange} {
		if seen[errno] < 300 {
			t.Errorf("error %d came only %d times", errno, seen[errno])
		}
	}
}

func TestP6_3BytesStay(t *testing.T) {
	for _, b := range [][]byte{
		nil,
		toldBytes(api.Message{Kind: 1}),
		toldBytes(api.Message{Kind: 5, From: 3, Frame: 9, Vals: numbers(24)}),
		[]byte("W\x01\x00\x00\x00\x00\x00\x00aaaa"),
		sealed(12, 0, 0, 0, 0),
		sealed(20, 1, 0, 0, 9),
		make([]byte, 221),
	} {
		whole, list := withRoom(b, []byte("what lies behind")...)
		before := slices.Clone(whole)
		Decode(list)
		if !bytes.Equal(whole, before) {
			t.Errorf("changed to %x, was %x", whole, before)
		}
	}
}

func TestP6_3AnswersAreNewMemory(t *testing.T) {
	for _, c := range known() {
		whole, b := withRoom([]byte(c.want), []byte("what lies behind")...)
		before := slices.Clone(whole)
		first, _ := Decode(b)
		second, _ := Decode(b)
		fill(first.Vals, 77)
		if !bytes.Equal(whole, before) {
			t.Errorf("what Decode(%x) answered shares with what was handed in", b)
		}
		if !same(second, c.m) {
			t.Errorf("two answers of Decode(%x) share: %v", b, second)
		}
		fill(whole, 'y')
		if !same(second, c.m) {
			t.Errorf("what Decode answered went with what was handed in: %v", second)
		}
		if third, errno := Decode([]byte(c.want)); errno != api.OK || !same(third, c.m) {
			t.Errorf("asked again, Decode(%x) = %v, %d", c.want, third, errno)
		}
	}
}

// accept wants a message to be encoded as told, and to come back.
func accept(t *testing.T, m api.Message) {
	t.Helper()
	b, errno := Encode(m)
	if want := toldBytes(m); errno != api.OK || !bytes.Equal(b, want) {
		t.Fatalf("Encode(%v) = %x, %d, want %x", m, b, errno, want)
	}
	if got, errno := Decode(b); errno != api.OK || !same(got, m) {
		t.Fatalf("Decode(%x) = %v, %d, want %v", b, got, errno, m)
	}
}

func refuse(t *testing.T, m api.Message, want api.Errno) {
	t.Helper()
	if b, errno := Encode(m); errno != want || len(b) != 0 {
		t.Errorf("Encode of Kind %d, From %d, Frame %d, %d Vals = %x, %d, want %d", m.Kind, m.From, m.Frame, len(m.Vals), b, errno, want)
	}
}

// decodes wants an error and nothing beside it, or OK and the message as told.
func decodes(t *testing.T, b []byte, want api.Errno) {
	t.Helper()
	m, errno := Decode(b)
	if errno != want {
		t.Errorf("Decode(%x) has the error %d, want %d", b, errno, want)
		return
	}
	if told, _ := toldDecode(b); !same(m, told) {
		t.Errorf("Decode(%x) = %v, want %v", b, m, told)
	}
	if want != api.OK && !zero(m) {
		t.Errorf("Decode(%x) = %v beside the error %d", b, m, errno)
	}
}

// sealed are n bytes, a right sum at their end, that begin as a message does, whatever its numbers are.
func sealed(n, kind, from, frame, count int) []byte {
	b := make([]byte, n-4)
	copy(b, []byte{'W', byte(kind), byte(from), byte(frame >> 24), byte(frame >> 16), byte(frame >> 8), byte(frame), byte(count)})
	for i := 8; i < len(b); i++ {
		b[i] = byte(7*i + 0x80)
	}
	return toldSeal(b)
}

// strangeBytes are bytes of which each error is true now and then, and no error too.
func strangeBytes(r *rand.Rand) []byte {
	pick := func(l ...int) int { return l[r.Intn(len(l))] }
	switch r.Intn(8) {
	case 0:
		return someBytes(r, r.Intn(260))
	case 1:
		return toldSeal(append([]byte("W"), someBytes(r, r.Intn(230))...))
	case 2:
		b := toldBytes(rightMessage(r))
		b[r.Intn(len(b))] ^= byte(1 + r.Intn(255))
		return b
	case 3:
		return toldBytes(rightMessage(r))
	}
	count := pick(0, 1, 3, 12, 23, 24, 25, 26, 27, 255)
	n := 12 + 8*pick(count, count, count, 0, 1, 26, 27) + pick(0, 0, 0, 1, 4)
	kind, from := pick(0, 1, 2, 3, 4, 5, 6, 255), pick(0, 1, 2, 3, 3, 4, 255)
	return sealed(n, kind, from, pick(0, 258, 1<<31-1, 1<<31-1, 1<<31, 1<<32-1), count)
}
