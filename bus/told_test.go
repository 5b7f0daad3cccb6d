package bus

import (
	"bytes"
	"math"
	"math/rand"
	"slices"

	"fourwatch/api"
)

const (
	top = math.MaxInt
	low = math.MinInt
)

// parcel is a short way to write one.
func parcel(from, to, due, serial int, text string) api.Parcel {
	return api.Parcel{From: from, To: to, Due: due, Serial: serial, Bytes: []byte(text)}
}

// deep is a bus that shares nothing with the one given.
func deep(b api.Bus) api.Bus {
	b.Queue = deepParcels(b.Queue)
	return b
}

func deepParcels(l []api.Parcel) []api.Parcel {
	fresh := make([]api.Parcel, len(l))
	for i, p := range l {
		fresh[i] = p
		fresh[i].Bytes = make([]byte, len(p.Bytes))
		copy(fresh[i].Bytes, p.Bytes)
	}
	return fresh
}

func sameParcel(a, b api.Parcel) bool {
	return a.From == b.From && a.To == b.To && a.Due == b.Due && a.Serial == b.Serial && bytes.Equal(a.Bytes, b.Bytes)
}

func sameParcels(a, b []api.Parcel) bool { return slices.EqualFunc(a, b, sameParcel) }

func sameBus(a, b api.Bus) bool {
	return a.Now == b.Now && a.Serial == b.Serial && sameParcels(a.Queue, b.Queue)
}

func zeroBus(b api.Bus) bool { return b.Now == 0 && b.Serial == 0 && len(b.Queue) == 0 }

// roomy is the same bus with spare room behind its queue and behind the bytes of each parcel, all of it filled.
func roomy(b api.Bus) api.Bus {
	queue := make([]api.Parcel, 0, len(b.Queue)+3)
	for _, p := range b.Queue {
		p.Bytes = roomyBytes(p.Bytes)
		queue = append(queue, p)
	}
	for i := range 3 {
		queue = append(queue, parcel(7+i, 8+i, 9+i, 10+i, "spare"))
	}
	b.Queue = queue[:len(b.Queue)]
	return b
}

func roomyBytes(b []byte) []byte {
	return append(append(make([]byte, 0, len(b)+5), b...), "spare"...)[:len(b)]
}

// whole is a queue with its spare room, and the spare room of the bytes, in memory of its own.
func whole(l []api.Parcel) []api.Parcel {
	l = slices.Clone(l[:cap(l)])
	for i, p := range l {
		l[i].Bytes = p.Bytes[:cap(p.Bytes)]
	}
	return deepParcels(l)
}

// spoil overwrites a list of parcels, its spare room and that of the bytes too.
func spoil(l []api.Parcel) {
	l = l[:cap(l)]
	for i := range l {
		spoilBytes(l[i].Bytes)
		l[i] = parcel(-1, -2, -3, -4, "spoilt")
	}
}

func spoilBytes(b []byte) {
	b = b[:cap(b)]
	for i := range b {
		b[i] ^= 0xA5
	}
}

// toldSend is P11.1 as it is told, the errors in their order.
func toldSend(b api.Bus, from, to int, l []byte, delay int) (api.Bus, api.Errno) {
	nodes := []int{0, 1, 2, 3}
	switch {
	case !slices.Contains(nodes, from), !slices.Contains(nodes, to), from == to:
		return api.Bus{}, api.ErrRange
	case delay < 0, delay > 1000, b.Now < 0, b.Now > 1<<40:
		return api.Bus{}, api.ErrRange
	case len(l) > 220:
		return api.Bus{}, api.ErrLong
	case len(b.Queue) > 399:
		return api.Bus{}, api.ErrFull
	}
	after := deep(b)
	after.Queue = append(after.Queue, parcel(from, to, b.Now+delay, b.Serial, string(l)))
	after.Serial++
	return after, api.OK
}

// toldStep is P11.2 as it is told: of what has come, again and again the one that goes ahead of all others is taken.
func toldStep(b api.Bus, now int) (api.Bus, []api.Parcel, api.Errno) {
	if now < b.Now || now > 1<<40 {
		return api.Bus{}, nil, api.ErrRange
	}
	after, left, come := api.Bus{Now: now, Serial: b.Serial}, []api.Parcel{}, []api.Parcel{}
	for _, p := range deepParcels(b.Queue) {
		if p.Due > now {
			after.Queue = append(after.Queue, p)
		} else {
			left = append(left, p)
		}
	}
	for len(left) > 0 {
		first := 0
		for i, p := range left {
			if p.Due < left[first].Due || p.Due == left[first].Due && p.Serial < left[first].Serial {
				first = i
			}
		}
		come = append(come, left[first])
		left = append(left[:first], left[first+1:]...)
	}
	return after, come, api.OK
}

// toldFind is the first place of a serial, or one behind the last.
func toldFind(l []api.Parcel, serial int) int {
	for i := range l {
		if l[i].Serial == serial {
			return i
		}
	}
	return len(l)
}

// toldLose is P11.3 as it is told.
func toldLose(b api.Bus, serial int) (api.Bus, api.Errno) {
	place := toldFind(b.Queue, serial)
	if place == len(b.Queue) {
		return api.Bus{}, api.ErrNone
	}
	after := api.Bus{Now: b.Now, Serial: b.Serial}
	for i, p := range deepParcels(b.Queue) {
		if i != place {
			after.Queue = append(after.Queue, p)
		}
	}
	return after, api.OK
}

// toldTurn is P11.3 as it is told, bit by bit.
func toldTurn(b api.Bus, serial, at, mask int) (api.Bus, api.Errno) {
	place := toldFind(b.Queue, serial)
	if place == len(b.Queue) {
		return api.Bus{}, api.ErrNone
	}
	if at < 0 || at >= len(b.Queue[place].Bytes) || mask < 0 || mask >= 256 {
		return api.Bus{}, api.ErrRange
	}
	after := deep(b)
	was, is := int(after.Queue[place].Bytes[at]), 0
	for bit := 1; bit < 256; bit *= 2 {
		if was/bit%2 != mask/bit%2 {
			is += bit
		}
	}
	after.Queue[place].Bytes[at] = byte(is)
	return after, api.OK
}

// anyBus is a bus of few times and serials, so that many are alike, and now and then of numbers at the ends.
func anyBus(r *rand.Rand) api.Bus {
	b := api.Bus{Now: anyNumber(r, 5), Serial: anyNumber(r, 5)}
	for range r.Intn(9) {
		text := make([]byte, r.Intn(4))
		r.Read(text)
		b.Queue = append(b.Queue, parcel(anyNumber(r, 4), anyNumber(r, 4), anyNumber(r, 5), anyNumber(r, 4), string(text)))
	}
	return b
}

// anyNumber is mostly one of a few.
func anyNumber(r *rand.Rand, few int) int {
	if r.Intn(12) == 0 {
		return []int{low, low + 1, -1, -2, 1 << 32, api.MaxTime, api.MaxTime + 1, top - 1, top}[r.Intn(9)]
	}
	return r.Intn(few)
}

// long is a queue of so many parcels, each with bytes of its own.
func long(n int) []api.Parcel {
	l := make([]api.Parcel, n)
	for i := range l {
		l[i] = parcel(i%4, (i+1)%4, 1000-i, i, string([]byte{byte(i), byte(i >> 8)}))
	}
	return l
}
