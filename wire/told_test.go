package wire

import (
	"bytes"
	"encoding/binary"
	"hash/crc32"
	"math"
	"math/rand"
	"slices"

	"fourwatch/api"
)

const (
	top = math.MaxInt
	low = math.MinInt
)

// toldCheck looks at a message as P6.1 tells it.
func toldCheck(m api.Message) api.Errno {
	if !slices.Contains([]int{1, 2, 3, 4, 5}, m.Kind) {
		return api.ErrKind
	}
	if !slices.Contains([]int{0, 1, 2, 3}, m.From) {
		return api.ErrRange
	}
	if m.Frame != int(int32(m.Frame)) || m.Frame < 0 {
		return api.ErrRange
	}
	if len(m.Vals) >= 25 {
		return api.ErrFull
	}
	return api.OK
}

// toldBytes are a message's bytes as P6.2 tells them, by the library's means; its numbers are cut to what they have room for.
func toldBytes(m api.Message) []byte {
	var b bytes.Buffer
	b.WriteString("W")
	b.Write([]byte{byte(m.Kind), byte(m.From)})
	binary.Write(&b, binary.BigEndian, uint32(m.Frame))
	b.WriteByte(byte(len(m.Vals)))
	for _, v := range m.Vals {
		binary.Write(&b, binary.BigEndian, int64(v))
	}
	return toldSeal(b.Bytes())
}

func toldSeal(b []byte) []byte {
	return binary.LittleEndian.AppendUint32(slices.Clone(b), crc32.ChecksumIEEE(b))
}

// toldDecode goes through P6.3's errors in their order.
func toldDecode(b []byte) (api.Message, api.Errno) {
	n := len(b)
	if n > 220 {
		return api.Message{}, api.ErrLong
	}
	if n < 12 {
		return api.Message{}, api.ErrForm
	}
	if b[0] != 87 {
		return api.Message{}, api.ErrForm
	}
	if binary.LittleEndian.Uint32(b[n-4:]) != crc32.ChecksumIEEE(b[:n-4]) {
		return api.Message{}, api.ErrSum
	}
	if b[7] > 24 {
		return api.Message{}, api.ErrFull
	}
	if n != 12+8*int(b[7]) {
		return api.Message{}, api.ErrForm
	}
	m := api.Message{Kind: int(b[1]), From: int(b[2]), Frame: int(binary.BigEndian.Uint32(b[3:7]))}
	for i := 8; i < n-4; i += 8 {
		m.Vals = append(m.Vals, int(int64(binary.BigEndian.Uint64(b[i:]))))
	}
	if errno := toldCheck(m); errno != api.OK {
		return api.Message{}, errno
	}
	return m, api.OK
}

func same(a, b api.Message) bool {
	return a.Kind == b.Kind && a.From == b.From && a.Frame == b.Frame && slices.Equal(a.Vals, b.Vals)
}

func zero(m api.Message) bool {
	return same(m, api.Message{})
}

// numbers are so many, each different from the others in all its eight bytes.
func numbers(n int) []int {
	l := make([]int, n)
	for i := range l {
		l[i] = i*0x0101010101010101 + 0x0102030405060708
		if i%2 == 1 {
			l[i] = -l[i]
		}
	}
	return l
}

// anyNumber is a number of any length; ends and noughts are among them.
func anyNumber(r *rand.Rand) int {
	switch r.Intn(8) {
	case 0:
		return 0
	case 1:
		return top - r.Intn(3)
	case 2:
		return low + r.Intn(3)
	}
	return int(r.Uint64()) >> r.Intn(64)
}

func rightMessage(r *rand.Rand) api.Message {
	m := api.Message{Kind: 1 + r.Intn(5), From: r.Intn(4), Frame: int(r.Uint32()>>1) >> r.Intn(31)}
	for range r.Intn(25) {
		m.Vals = append(m.Vals, anyNumber(r))
	}
	return m
}

func someBytes(r *rand.Rand, n int) []byte {
	b := make([]byte, n)
	r.Read(b)
	return b
}

// withRoom is an array's whole, and a copy of a list ahead of spare room in it that is not empty.
func withRoom[T any](l []T, behind ...T) (whole, list []T) {
	whole = slices.Concat(l, behind)
	return whole, whole[:len(l)]
}

// fill writes a list's spare room too.
func fill[T any](l []T, v T) {
	l = l[:cap(l)]
	for i := range l {
		l[i] = v
	}
}
