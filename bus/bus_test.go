package bus

import (
	"bytes"
	"math/rand"
	"slices"
	"testing"

	"fourwatch/api"
)

// few is a bus with parcels of several links: serial 4 is there twice, and the queue is in no order.
func few() api.Bus {
	return api.Bus{Now: 10, Serial: 8, Queue: []api.Parcel{
		parcel(0, 1, 15, 3, "ab"),
		parcel(1, 2, 12, 4, "cde"),
		parcel(3, 0, 12, 1, ""),
		parcel(2, 1, 19, 7, "f"),
		parcel(2, 3, 12, 4, "ghi"),
		parcel(0, 3, 10, 6, "jk"),
	}}
}

func checkSend(t *testing.T, b api.Bus, from, to int, l []byte, delay int) {
	t.Helper()
	want, wantErrno := toldSend(b, from, to, l, delay)
	in, text := roomy(b), roomyBytes(l)
	was, textWas := whole(in.Queue), slices.Clone(text[:cap(text)])
	got, errno := Send(in, from, to, text, delay)
	if errno != wantErrno || !sameBus(got, want) {
		t.Errorf("Send(%v, %d, %d, %q, %d): %v, %d; want %v, %d", b, from, to, l, delay, got, errno, want, wantErrno)
	}
	if !sameParcels(whole(in.Queue), was) || !bytes.Equal(text[:cap(text)], textWas) {
		t.Errorf("Send(%v, %d, %d, %q, %d): what was handed in is changed", b, from, to, l, delay)
	}
	spoil(in.Queue)
	spoilBytes(text)
	if !sameBus(got, want) {
		t.Errorf("Send(%v, %d, %d, %q, %d): the answer shares memory with what was handed in", b, from, to, l, delay)
	}
	checkApart(t, got.Queue)
}

func checkStep(t *testing.T, b api.Bus, now int) {
	t.Helper()
	want, wantCome, wantErrno := toldStep(b, now)
	in := roomy(b)
	was := whole(in.Queue)
	got, come, errno := Step(in, now)
	if errno != wantErrno || !sameBus(got, want) || !sameParcels(come, wantCome) {
		t.Errorf("Step(%v, %d): %v, %v, %d; want %v, %v, %d", b, now, got, come, errno, want, wantCome, wantErrno)
	}
	if !sameParcels(whole(in.Queue), was) {
		t.Errorf("Step(%v, %d): what was handed in is changed", b, now)
	}
	spoil(in.Queue)
	if !sameBus(got, want) || !sameParcels(come, wantCome) {
		t.Errorf("Step(%v, %d): the answer shares memory with what was handed in", b, now)
	}
	checkApart(t, got.Queue, come)
}

func checkLose(t *testing.T, b api.Bus, serial int) {
	t.Helper()
	want, wantErrno := toldLose(b, serial)
	in := roomy(b)
	was := whole(in.Queue)
	got, errno := Lose(in, serial)
	if errno != wantErrno || !sameBus(got, want) {
		t.Errorf("Lose(%v, %d): %v, %d; want %v, %d", b, serial, got, errno, want, wantErrno)
	}
	if !sameParcels(whole(in.Queue), was) {
		t.Errorf("Lose(%v, %d): what was handed in is changed", b, serial)
	}
	spoil(in.Queue)
	if !sameBus(got, want) {
		t.Errorf("Lose(%v, %d): the answer shares memory with what was handed in", b, serial)
	}
	checkApart(t, got.Queue)
}

func checkTurn(t *testing.T, b api.Bus, serial, at, mask int) {
	t.Helper()
	want, wantErrno := toldTurn(b, serial, at, mask)
	in := roomy(b)
	was := whole(in.Queue)
	got, errno := Turn(in, serial, at, mask)
	if errno != wantErrno || !sameBus(got, want) {
		t.Errorf("Turn(%v, %d, %d, %d): %v, %d; want %v, %d", b, serial, at, mask, got, errno, want, wantErrno)
	}
	if !sameParcels(whole(in.Queue), was) {
		t.Errorf("Turn(%v, %d, %d, %d): what was handed in is changed", b, serial, at, mask)
	}
	spoil(in.Queue)
	if !sameBus(got, want) {
		t.Errorf("Turn(%v, %d, %d, %d): the answer shares memory with what was handed in", b, serial, at, mask)
	}
	checkApart(t, got.Queue)
}

// checkApart overwrites the bytes of one parcel after the other, with their spare room: none may be seen in another one.
// Then the lists are overwritten, one after the other.
func checkApart(t *testing.T, lists ...[]api.Parcel) {
	t.Helper()
	all := slices.Concat(lists...)
	for i := range all {
		was := deepParcels(all)
		spoilBytes(all[i].Bytes)
		for j := range all {
			if j != i && !sameParcel(all[j], was[j]) {
				t.Errorf("parcels %d and %d of an answer share memory", i, j)
			}
		}
	}
	for i, l := range lists {
		behind := deepParcels(slices.Concat(lists[i+1:]...))
		spoil(l)
		if !sameParcels(slices.Concat(lists[i+1:]...), behind) {
			t.Errorf("list %d of an answer shares memory with another", i)
		}
	}
}

// refused holds every other result to be zero beside an error.
func refused(t *testing.T, call string, b api.Bus, got, want api.Errno) {
	t.Helper()
	if got != want || !zeroBus(b) {
		t.Errorf("%s: %v, %d; want error %d alone", call, b, got, want)
	}
}

func TestP11_1Send(t *testing.T) {
	b, errno := Send(api.Bus{}, 0, 1, []byte("ab"), 5)
	want := api.Bus{Now: 0, Serial: 1, Queue: []api.Parcel{parcel(0, 1, 5, 0, "ab")}}
	if errno != api.OK || !sameBus(b, want) {
		t.Fatalf("Send: %v, %d; want %v", b, errno, want)
	}
	b, errno = Send(b, 3, 2, nil, 2)
	want.Serial, want.Queue = 2, append(want.Queue, parcel(3, 2, 2, 1, ""))
	if errno != api.OK || !sameBus(b, want) {
		t.Fatalf("Send behind: %v, %d; want %v", b, errno, want)
	}
	b.Now = 100
	b, errno = Send(b, 2, 0, []byte{0, 255}, 0)
	want.Now, want.Serial, want.Queue = 100, 3, append(want.Queue, parcel(2, 0, 100, 2, "\x00\xff"))
	if errno != api.OK || !sameBus(b, want) {
		t.Fatalf("Send later: %v, %d; want %v", b, errno, want)
	}
}

// The queue isn't looked at but for its length: it may hold anything, in any order.
func TestP11_1AnyQueue(t *testing.T) {
	checkSend(t, few(), 3, 1, []byte("xyz"), 7)
	checkSend(t, few(), 1, 3, nil, 0)
	b := few()
	b.Queue = append(b.Queue, parcel(9, 9, low, 8, string(make([]byte, 300))), parcel(-1, -1, top, top, ""))
	checkSend(t, b, 0, 2, []byte("v"), 1)
}

// The next serial is one more, whatever it was.
func TestP11_1Serials(t *testing.T) {
	for _, serial := range []int{0, 1, 255, 1 << 31, 1<<32 - 1, -1, -7, low, top - 1} {
		b := few()
		b.Serial = serial
		got, errno := Send(b, 0, 1, nil, 0)
		if errno != api.OK || got.Serial != serial+1 || got.Queue[6].Serial != serial {
			t.Errorf("Send at serial %d: %v, %d", serial, got, errno)
		}
	}
	// Behind the last number of 64 bits the first one comes, and nothing panics.
	got, errno := Send(api.Bus{Serial: top}, 0, 1, nil, 0)
	if errno != api.OK || got.Serial != low || got.Queue[0].Serial != top {
		t.Errorf("Send at the last serial: %v, %d", got, errno)
	}
}

func TestP11_1EachLink(t *testing.T) {
	numbers := []int{low, -4, -1, 0, 1, 2, 3, 4, 5, 256, 1 << 32, 1<<32 + 1, top}
	for _, from := range numbers {
		for _, to := range numbers {
			checkSend(t, few(), from, to, []byte("x"), 1)
			good := from >= 0 && from <= 3 && to >= 0 && to <= 3 && from != to
			got, errno := Send(few(), from, to, []byte("x"), 1)
			if good && errno != api.OK {
				t.Errorf("Send from %d to %d: %d", from, to, errno)
			}
			if !good {
				refused(t, "Send", got, errno, api.ErrRange)
			}
		}
	}
}

func TestP11_1Delays(t *testing.T) {
	for _, c := range []struct {
		delay int
		errno api.Errno
	}{{low, 3}, {-1, 3}, {0, 0}, {1, 0}, {999, 0}, {1000, 0}, {1001, 3}, {1 << 32, 3}, {top, 3}} {
		checkSend(t, few(), 0, 1, []byte("x"), c.delay)
		got, errno := Send(few(), 0, 1, []byte("x"), c.delay)
		if c.errno != api.OK {
			refused(t, "Send", got, errno, c.errno)
		} else if errno != api.OK || got.Queue[6].Due != 10+c.delay {
			t.Errorf("Send with delay %d: %v, %d", c.delay, got, errno)
		}
	}
}

func TestP11_1Times(t *testing.T) {
	for _, c := range []struct {
		now   int
		errno api.Errno
	}{{low, 3}, {-1, 3}, {0, 0}, {1, 0}, {1<<40 - 1, 0}, {1 << 40, 0}, {1<<40 + 1, 3}, {top, 3}, {top - 5, 3}} {
		b := few()
		b.Now = c.now
		checkSend(t, b, 2, 1, []byte("x"), 1000)
		got, errno := Send(b, 2, 1, []byte("x"), 1000)
		if c.errno != api.OK {
			refused(t, "Send", got, errno, c.errno)
		} else if errno != api.OK || got.Now != c.now || got.Queue[6].Due != c.now+1000 {
			t.Errorf("Send at %d: %v, %d", c.now, got, errno)
		}
	}
}

func TestP11_1Lengths(t *testing.T) {
	for _, c := range []struct {
		length int
		errno  api.Errno
	}{{0, 0}, {1, 0}, {219, 0}, {220, 0}, {221, 1}, {222, 1}, {476, 1}, {70000, 1}} {
		l := bytes.Repeat([]byte{3, 1, 4}, c.length)[:c.length]
		checkSend(t, few(), 2, 1, l, 4)
		got, errno := Send(few(), 2, 1, l, 4)
		if c.errno != api.OK {
			refused(t, "Send", got, errno, c.errno)
		} else if errno != api.OK || !bytes.Equal(got.Queue[6].Bytes, l) {
			t.Errorf("Send of %d bytes: %v, %d", c.length, got, errno)
		}
	}
}

func TestP11_1Full(t *testing.T) {
	for _, c := range []struct {
		length int
		errno  api.Errno
	}{{398, 0}, {399, 0}, {400, 6}, {401, 6}, {5000, 6}} {
		b := api.Bus{Now: 3, Serial: 9000, Queue: long(c.length)}
		got, errno := Send(b, 1, 0, []byte("x"), 4)
		if c.errno != api.OK {
			refused(t, "Send", got, errno, c.errno)
		} else if errno != api.OK || len(got.Queue) != c.length+1 {
			t.Errorf("Send behind %d: %d, %d", c.length, len(got.Queue), errno)
		}
	}
	checkSend(t, api.Bus{Queue: long(399)}, 1, 0, []byte("x"), 4)
	checkSend(t, api.Bus{Queue: long(400)}, 1, 0, []byte("x"), 4)
}

// Where several apply, it is ErrRange ahead of ErrLong ahead of ErrFull.
func TestP11_1FirstError(t *testing.T) {
	full, much := api.Bus{Queue: long(400)}, make([]byte, 221)
	late := full
	late.Now = -1
	for _, c := range []struct {
		b               api.Bus
		from, to, delay int
		l               []byte
		errno           api.Errno
	}{
		{full, 0, 0, 1, much, api.ErrRange},
		{full, -1, 0, 1, much, api.ErrRange},
		{full, 0, 4, 1, much, api.ErrRange},
		{full, 0, 1, 1001, much, api.ErrRange},
		{full, 0, 1, -1, much, api.ErrRange},
		{late, 0, 1, 1, much, api.ErrRange},
		{late, 0, 1, 1, nil, api.ErrRange},
		{late, 4, 4, -1, nil, api.ErrRange},
		{few(), 0, 0, 1, much, api.ErrRange},
		{full, 0, 1, 1, much, api.ErrLong},
		{full, 0, 1, 1, much[1:], api.ErrFull},
		{few(), 0, 1, 1, much, api.ErrLong},
	} {
		got, errno := Send(c.b, c.from, c.to, c.l, c.delay)
		refused(t, "Send", got, errno, c.errno)
	}
}

func TestP11_1AsTold(t *testing.T) {
	r := rand.New(rand.NewSource(1))
	for range 4000 {
		text := make([]byte, r.Intn(5))
		r.Read(text)
		checkSend(t, anyBus(r), anyNumber(r, 4), anyNumber(r, 4), text, anyNumber(r, 1002))
	}
}

func TestP11_2Step(t *testing.T) {
	b, come, errno := Step(few(), 15)
	wantCome := []api.Parcel{
		parcel(0, 3, 10, 6, "jk"),
		parcel(3, 0, 12, 1, ""),
		parcel(1, 2, 12, 4, "cde"),
		parcel(2, 3, 12, 4, "ghi"),
		parcel(0, 1, 15, 3, "ab"),
	}
	want := api.Bus{Now: 15, Serial: 8, Queue: []api.Parcel{parcel(2, 1, 19, 7, "f")}}
	if errno != api.OK || !sameBus(b, want) || !sameParcels(come, wantCome) {
		t.Errorf("Step: %v, %v, %d; want %v, %v", b, come, errno, want, wantCome)
	}
	for now := 9; now <= 21; now++ {
		checkStep(t, few(), now)
	}
}

func TestP11_2OneAfterTheOther(t *testing.T) {
	b := api.Bus{}
	for i, delay := range []int{5, 3, 3, 9, 0, 4, 5} {
		b, _ = Send(b, i%4, (i+1)%4, []byte{byte(i)}, delay)
	}
	for _, c := range []struct {
		now  int
		come []int
		left []int
	}{
		{0, []int{4}, []int{0, 1, 2, 3, 5, 6}},
		{0, nil, []int{0, 1, 2, 3, 5, 6}},
		{2, nil, []int{0, 1, 2, 3, 5, 6}},
		{3, []int{1, 2}, []int{0, 3, 5, 6}},
		{5, []int{5, 0, 6}, []int{3}},
		{8, nil, []int{3}},
		{1000, []int{3}, nil},
		{1001, nil, nil},
		{api.MaxTime, nil, nil},
		{api.MaxTime, nil, nil},
	} {
		after, come, errno := Step(b, c.now)
		if errno != api.OK || after.Now != c.now || after.Serial != 7 || !slices.Equal(serials(come), c.come) || !slices.Equal(serials(after.Queue), c.left) {
			t.Errorf("Step(%v, %d): %v, %v, %d; want %v come and %v left", b, c.now, after, come, errno, c.come, c.left)
		}
		b = after
	}
}

func serials(l []api.Parcel) []int {
	all := []int{}
	for _, p := range l {
		all = append(all, p.Serial)
	}
	return all
}

func TestP11_2Times(t *testing.T) {
	for _, c := range []struct {
		was, now int
		errno    api.Errno
	}{
		{10, 9, 3}, {10, 10, 0}, {10, 11, 0}, {10, -1, 3}, {10, low, 3},
		{10, 1 << 40, 0}, {10, 1<<40 + 1, 3}, {10, top, 3},
		{1 << 40, 1 << 40, 0}, {1 << 40, 1<<40 - 1, 3}, {1 << 40, 1<<40 + 1, 3},
		{1<<40 + 1, 1<<40 + 1, 3}, {1<<40 + 1, 1 << 40, 3}, {top, top, 3}, {top, low, 3},
		// A bus's time may be below 0 here: only what goes back or too far is refused.
		{-5, -6, 3}, {-5, -5, 0}, {-5, -4, 0}, {-5, 0, 0}, {low, low, 0}, {low, 1 << 40, 0}, {low, top, 3},
	} {
		b := few()
		b.Now = c.was
		checkStep(t, b, c.now)
		got, come, errno := Step(b, c.now)
		if c.errno != api.OK {
			refused(t, "Step", got, errno, c.errno)
		} else if errno != api.OK || got.Now != c.now {
			t.Errorf("Step from %d to %d: %v, %d", c.was, c.now, got, errno)
		}
		if c.errno != api.OK && len(come) != 0 {
			t.Errorf("Step from %d to %d: %v beside an error", c.was, c.now, come)
		}
	}
}

// Parcels alike in Due and Serial come as they lay in the queue, be they ever so many.
func TestP11_2LikeOnes(t *testing.T) {
	b := api.Bus{Now: 1, Serial: 5}
	for i := range 300 {
		b.Queue = append(b.Queue, parcel(i%4, i%3, 7-i%2, i%3, string([]byte{byte(i), byte(i >> 8)})))
	}
	checkStep(t, b, 7)
	_, come, _ := Step(b, 7)
	place := func(p api.Parcel) int { return int(p.Bytes[0]) + 256*int(p.Bytes[1]) }
	for i := 1; i < len(come); i++ {
		p, q := come[i-1], come[i]
		if p.Due == q.Due && p.Serial == q.Serial && place(p) >= place(q) {
			t.Fatalf("parcel %d comes ahead of %d", place(p), place(q))
		}
	}
	if len(come) != 300 {
		t.Errorf("%d of 300 came", len(come))
	}
}

// A queue may be longer than Send would have it, and a Due anything.
func TestP11_2AnyQueue(t *testing.T) {
	b := api.Bus{Now: -3, Serial: -9, Queue: append(long(500), parcel(9, -9, low, low, "a"), parcel(0, 0, top, top, "b"), parcel(1, 1, low, top, "c"), parcel(1, 1, low, -1, "d"))}
	for _, now := range []int{-3, 0, 501, 750, 1000, api.MaxTime} {
		checkStep(t, b, now)
	}
	checkStep(t, api.Bus{}, 0)
	checkStep(t, api.Bus{Queue: []api.Parcel{}}, 7)
	checkStep(t, api.Bus{Queue: make([]api.Parcel, 3)}, 0)
}

// Parcels that were handed in with bytes in common have their own behind.
func TestP11_2BytesInCommon(t *testing.T) {
	text := []byte("abcdef")
	b := api.Bus{Queue: []api.Parcel{{Due: 1, Bytes: text}, {Due: 5, Bytes: text[2:]}, {Due: 0, Bytes: text[:3]}, {Due: 9, Bytes: text}}}
	after, come, _ := Step(b, 2)
	checkApart(t, after.Queue, come)
	if string(text) != "abcdef" {
		t.Errorf("what was handed in shares memory with an answer: %q", text)
	}
}

func TestP11_2AsTold(t *testing.T) {
	r := rand.New(rand.NewSource(2))
	for range 6000 {
		checkStep(t, anyBus(r), anyNumber(r, 7))
	}
}

func TestP11_3Lose(t *testing.T) {
	b, errno := Lose(few(), 1)
	if errno != api.OK || b.Now != 10 || b.Serial != 8 || !slices.Equal(serials(b.Queue), []int{3, 4, 7, 4, 6}) {
		t.Errorf("Lose: %v, %d", b, errno)
	}
	// Of two the first in the queue is lost, though no other field tells them apart.
	b, errno = Lose(few(), 4)
	if errno != api.OK || !slices.Equal(serials(b.Queue), []int{3, 1, 7, 4, 6}) || string(b.Queue[3].Bytes) != "ghi" {
		t.Errorf("Lose of the first of two: %v, %d", b, errno)
	}
	b, errno = Lose(b, 4)
	if errno != api.OK || !slices.Equal(serials(b.Queue), []int{3, 1, 7, 6}) {
		t.Errorf("Lose of the second: %v, %d", b, errno)
	}
	b, errno = Lose(b, 4)
	refused(t, "Lose", b, errno, api.ErrNone)
	b, errno = Lose(api.Bus{Queue: []api.Parcel{parcel(0, 1, 2, 3, "a")}}, 3)
	if errno != api.OK || len(b.Queue) != 0 {
		t.Errorf("Lose of the only one: %v, %d", b, errno)
	}
}

// The bus's own serial is none of a parcel's, and no bound holds for times and serials.
func TestP11_3LoseEach(t *testing.T) {
	for _, serial := range []int{low, -1, 0, 1, 2, 3, 4, 5, 6, 7, 8, 9, 1 << 32, 1<<32 + 1, top} {
		checkLose(t, few(), serial)
		checkLose(t, api.Bus{Now: -1, Serial: serial}, serial)
		checkLose(t, api.Bus{Now: top, Serial: low, Queue: []api.Parcel{parcel(8, 8, low, serial, "a"), parcel(9, 9, top, serial, "b")}}, serial)
	}
	checkLose(t, api.Bus{}, 0)
	b := api.Bus{Queue: long(500)}
	for _, serial := range []int{0, 1, 399, 400, 499, 500} {
		checkLose(t, b, serial)
	}
}

func TestP11_3Turn(t *testing.T) {
	for _, c := range []struct {
		serial, at, mask, place int
		text                    string
	}{
		{3, 0, 1, 0, "`b"},
		{3, 1, 255, 0, "a\x9d"},
		{3, 1, 0, 0, "ab"},
		{4, 0, 32, 1, "Cde"},
		{4, 2, 128, 1, "cd\xe5"},
		{7, 0, 'f', 3, "\x00"},
		{6, 1, 3, 5, "jh"},
	} {
		checkTurn(t, few(), c.serial, c.at, c.mask)
		want := few()
		want.Queue[c.place].Bytes = []byte(c.text)
		got, errno := Turn(few(), c.serial, c.at, c.mask)
		if errno != api.OK || !sameBus(got, want) {
			t.Errorf("Turn(%d, %d, %d): %v, %d; want %v", c.serial, c.at, c.mask, got, errno, want)
		}
		if back, _ := Turn(got, c.serial, c.at, c.mask); !sameBus(back, few()) {
			t.Errorf("Turn(%d, %d, %d) twice: %v", c.serial, c.at, c.mask, back)
		}
	}
}

func TestP11_3TurnRange(t *testing.T) {
	for _, c := range []struct {
		serial, at, mask int
		errno            api.Errno
	}{
		{3, -1, 1, 3}, {3, 2, 1, 3}, {3, 3, 1, 3}, {3, low, 1, 3}, {3, top, 1, 3}, {3, 1 << 32, 1, 3},
		{3, 1, -1, 3}, {3, 1, 256, 3}, {3, 1, low, 3}, {3, 1, top, 3}, {3, 1, 1<<32 + 1, 3}, {3, 1, -256, 3},
		{3, 2, 256, 3}, {3, -1, -1, 3},
		{1, 0, 1, 3}, {1, 0, 0, 3}, {1, -1, 0, 3}, // no bytes have no place
		{3, 1, 255, 0}, {3, 1, 0, 0}, {3, 0, 255, 0}, {4, 2, 1, 0}, {4, 3, 1, 3}, {7, 0, 1, 0}, {7, 1, 1, 3},
		{9, 0, 1, 7}, {8, 0, 1, 7}, {-1, 0, 1, 7}, {low, 0, 1, 7}, {top, 0, 1, 7}, {1<<32 + 3, 0, 1, 7},
		{9, -1, 1, 7}, {9, 0, 256, 7}, {9, 99, -1, 7}, // ErrNone goes ahead
	} {
		checkTurn(t, few(), c.serial, c.at, c.mask)
		got, errno := Turn(few(), c.serial, c.at, c.mask)
		if c.errno != api.OK {
			refused(t, "Turn", got, errno, c.errno)
		} else if errno != api.OK {
			t.Errorf("Turn(%d, %d, %d): %d", c.serial, c.at, c.mask, errno)
		}
	}
	got, errno := Turn(api.Bus{}, 0, 0, 0)
	refused(t, "Turn", got, errno, api.ErrNone)
}

// Only the first of a serial is asked: the second has a place that the first has not, and the other way round.
func TestP11_3TurnFirst(t *testing.T) {
	b := api.Bus{Now: 5, Serial: 6, Queue: []api.Parcel{parcel(0, 1, 9, 2, "a"), parcel(0, 1, 1, 2, "bc"), parcel(0, 1, 1, 3, "de"), parcel(1, 0, 1, 3, "")}}
	got, errno := Turn(b, 2, 1, 1)
	refused(t, "Turn", got, errno, api.ErrRange)
	for _, serial := range []int{2, 3} {
		for _, at := range []int{-1, 0, 1, 2} {
			checkTurn(t, b, serial, at, 77)
		}
	}
}

// Of parcels that were handed in with bytes in common, only the one that is meant is turned.
func TestP11_3TurnBytesInCommon(t *testing.T) {
	text := []byte("abc")
	b := api.Bus{Queue: []api.Parcel{{Serial: 1, Bytes: text}, {Serial: 2, Bytes: text}, {Serial: 3, Bytes: text[1:]}}}
	got, errno := Turn(b, 2, 1, 1)
	if errno != api.OK || string(got.Queue[0].Bytes) != "abc" || string(got.Queue[1].Bytes) != "acc" || string(got.Queue[2].Bytes) != "bc" || string(text) != "abc" {
		t.Errorf("Turn: %v, %d", got.Queue, errno)
	}
}

// Every byte with every mask, at the last place of a parcel as long as may be and longer.
func TestP11_3EachMask(t *testing.T) {
	for _, length := range []int{256, 300} {
		l := make([]byte, length)
		for i := range l {
			l[i] = byte(i)
		}
		b := api.Bus{Queue: []api.Parcel{{Serial: 4, Bytes: l}}}
		for mask := range 256 {
			at := (mask * 7) % length
			got, errno := Turn(b, 4, at, mask)
			if errno != api.OK || int(got.Queue[0].Bytes[at]) != at%256^mask {
				t.Fatalf("Turn at %d by %d: %d, %d", at, mask, got.Queue[0].Bytes[at], errno)
			}
		}
		checkTurn(t, b, 4, length-1, 255)
		checkTurn(t, b, 4, length, 255)
	}
}

func TestP11_3AsTold(t *testing.T) {
	r := rand.New(rand.NewSource(3))
	for range 4000 {
		checkLose(t, anyBus(r), anyNumber(r, 4))
		checkTurn(t, anyBus(r), anyNumber(r, 4), anyNumber(r, 4), anyNumber(r, 258))
	}
}

// What was sent, lost and turned on one bus is not seen on the one that it came from.
func TestP11_ManyFromOne(t *testing.T) {
	b := few()
	sent, _ := Send(b, 0, 1, []byte("new"), 1)
	lost, _ := Lose(sent, 3)
	turned, _ := Turn(sent, 8, 0, 255)
	after, come, _ := Step(sent, 11)
	checkApart(t, lost.Queue, turned.Queue, after.Queue, come)
	if !sameBus(b, few()) {
		t.Errorf("the first bus is changed: %v", b)
	}
	want, _ := toldSend(few(), 0, 1, []byte("new"), 1)
	if !sameBus(sent, want) {
		t.Errorf("the bus that was sent on is changed: %v", sent)
	}
}
