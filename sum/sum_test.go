package sum

import (
	"bytes"
	"hash/crc32"
	"math"
	"math/rand"
	"slices"
	"testing"
)

func TestP5_1SumOfKnownTexts(t *testing.T) {
	for _, c := range []struct {
		text string
		want int
	}{
		{"", 0},
		{"123456789", 0xCBF43926},
		{"a", 0xE8B7BE43},
		{"abc", 0x352441C2},
		{"\x00", 0xD202EF8D},
		{"\xFF", 0xFF000000},
		{"\x00\x00\x00\x00", 0x2144DF1C},
		{"\xFF\xFF\xFF\xFF", 0xFFFFFFFF},
		{"The quick brown fox jumps over the lazy dog", 0x414FA339},
	} {
		if got := Sum([]byte(c.text)); got != c.want {
			t.Errorf("Sum(%q) = %x, want %x", c.text, got, c.want)
		}
		if got := More(0, []byte(c.text)); got != c.want {
			t.Errorf("More(0, %q) = %x, want %x", c.text, got, c.want)
		}
	}
	if got := Sum(nil); got != 0 {
		t.Errorf("Sum(nil) = %x", got)
	}
}

func TestP5_1OneByteOfEachValue(t *testing.T) {
	seen := map[int]int{}
	for i := range 256 {
		b := []byte{byte(i)}
		got := Sum(b)
		if want := told(0, b); got != want {
			t.Errorf("Sum of the byte %d = %x, want %x", i, got, want)
		}
		if got := More(0xFFFFFFFF, b); got != told(0xFFFFFFFF, b) {
			t.Errorf("More(2^32 - 1, byte %d) = %x, want %x", i, got, told(0xFFFFFFFF, b))
		}
		if other, twice := seen[got]; twice {
			t.Errorf("the bytes %d and %d have one sum", other, i)
		}
		seen[got] = i
	}
}

func TestP5_1AsTold(t *testing.T) {
	r := rand.New(rand.NewSource(51))
	for range 2000 {
		s := int(r.Uint64())
		b := someBytes(r, r.Intn(40))
		if got, want := More(s, b), told(s, b); got != want {
			t.Fatalf("More(%d, %x) = %x, want %x", s, b, got, want)
		}
	}
}

func TestP5_1AsTheLibrary(t *testing.T) {
	r := rand.New(rand.NewSource(52))
	for _, n := range []int{0, 1, 3, 4, 7, 8, 9, 220, 255, 256, 257, 65536, 1000003} {
		b := someBytes(r, n)
		if got, want := Sum(b), int(crc32.ChecksumIEEE(b)); got != want {
			t.Errorf("Sum of %d bytes = %x, want %x", n, got, want)
		}
		s := r.Uint32()
		if got, want := More(int(s), b), int(crc32.Update(s, crc32.IEEETable, b)); got != want {
			t.Errorf("More(%d, %d bytes) = %x, want %x", s, n, got, want)
		}
	}
}

func TestP5_1PieceByPiece(t *testing.T) {
	b := []byte("123456789")
	for i := range len(b) + 1 {
		for j := i; j <= len(b); j++ {
			got := More(More(Sum(b[:i]), b[i:j]), b[j:])
			if got != 0xCBF43926 {
				t.Errorf("cut at %d and %d: %x", i, j, got)
			}
		}
	}
	s := 0
	for i := range b {
		s = More(s, b[i:i+1])
	}
	if s != 0xCBF43926 {
		t.Errorf("byte by byte: %x", s)
	}
}

func TestP5_1OfNoBytes(t *testing.T) {
	for _, c := range []struct{ s, want int }{
		{0, 0},
		{1, 1},
		{0x80000000, 0x80000000},
		{0xCBF43926, 0xCBF43926},
		{1<<32 - 1, 1<<32 - 1},
		{1 << 32, 0},
		{1<<32 + 7, 7},
		{-1, 1<<32 - 1},
		{-2, 1<<32 - 2},
		{-1 << 31, 1 << 31},
		{-1 << 32, 0},
		{-1<<32 - 1, 1<<32 - 1},
		{math.MaxInt, 1<<32 - 1},
		{math.MinInt, 0},
		{math.MinInt + 5, 5},
	} {
		if got := More(c.s, nil); got != c.want {
			t.Errorf("More(%d, nil) = %d, want %d", c.s, got, c.want)
		}
		if got := More(c.s, []byte{}); got != c.want {
			t.Errorf("More(%d, no bytes) = %d, want %d", c.s, got, c.want)
		}
	}
}

func TestP5_1OnlyTheLowestBitsCount(t *testing.T) {
	b := []byte("fourwatch")
	for _, low := range []int{0, 1, 0x7FFFFFFF, 0x80000000, 0xCBF43926, 1<<32 - 1} {
		want := told(low, b)
		for _, high := range []int{0, 1, -1, 2, 0x12345678, 1<<31 - 1, -1 << 31} {
			if got := More(high<<32+low, b); got != want {
				t.Errorf("More(%d, %s) = %x, want %x", high<<32+low, b, got, want)
			}
		}
		for i := range 32 {
			if got := More(low^1<<i, b); got == want {
				t.Errorf("bit %d of %x does not count", i, low)
			}
		}
	}
}

func TestP5_1FromEndToEnd(t *testing.T) {
	// Four bytes can bring the register to any value, so both ends can be reached behind any sum.
	for _, c := range []struct {
		s    int
		b    []byte
		want int
	}{
		{0, []byte{0xFF, 0xFF, 0xFF, 0xFF}, 1<<32 - 1},
		{0, []byte{0x9D, 0x0A, 0xD9, 0x6D}, 0},
		{1<<32 - 1, []byte{0, 0, 0, 0}, 1<<32 - 1},
		{-1, []byte{0, 0, 0, 0, 0, 0, 0, 0, 0}, 1<<32 - 1},
	} {
		if got := More(c.s, c.b); got != c.want {
			t.Errorf("More(%d, %x) = %x, want %x", c.s, c.b, got, c.want)
		}
	}
	r := rand.New(rand.NewSource(53))
	for range 5000 {
		if got := More(int(r.Uint64()), someBytes(r, r.Intn(9))); got < 0 || got > 1<<32-1 {
			t.Fatalf("a sum of %d", got)
		}
	}
}

func TestP5_1BytesStay(t *testing.T) {
	whole, b := withRoom("123456789")
	before := slices.Clone(whole)
	Sum(b)
	More(-5, b)
	if !bytes.Equal(whole, before) {
		t.Errorf("changed to %x, was %x", whole, before)
	}
	first := Sum(b)
	if again := Sum(b); again != first {
		t.Errorf("asked twice: %x and %x", first, again)
	}
}

func TestP5_2SealOfKnownTexts(t *testing.T) {
	for _, c := range []struct{ text, want string }{
		{"", "\x00\x00\x00\x00"},
		{"a", "a\x43\xBE\xB7\xE8"},
		{"123456789", "123456789\x26\x39\xF4\xCB"},
		{"\xFF", "\xFF\x00\x00\x00\xFF"},
		{"\x00\x00\x00\x00", "\x00\x00\x00\x00\x1C\xDF\x44\x21"},
	} {
		if got := Seal([]byte(c.text)); string(got) != c.want {
			t.Errorf("Seal(%q) = %q, want %q", c.text, got, c.want)
		}
		if got, right := Open([]byte(c.want)); !right || string(got) != c.text {
			t.Errorf("Open(%q) = %q, %v, want %q", c.want, got, right, c.text)
		}
	}
	if got := Seal(nil); string(got) != "\x00\x00\x00\x00" {
		t.Errorf("Seal(nil) = %x", got)
	}
}

func TestP5_2SealedAndOpened(t *testing.T) {
	r := rand.New(rand.NewSource(54))
	for n := range 300 {
		b := someBytes(r, n)
		sealed := Seal(b)
		s := told(0, b)
		want := append(slices.Clone(b), byte(s), byte(s>>8), byte(s>>16), byte(s>>24))
		if !bytes.Equal(sealed, want) {
			t.Fatalf("Seal(%x) = %x, want %x", b, sealed, want)
		}
		if got, right := Open(sealed); !right || !bytes.Equal(got, b) {
			t.Fatalf("Open(%x) = %x, %v", sealed, got, right)
		}
		twice := Seal(sealed)
		if once, right := Open(twice); !right || !bytes.Equal(once, sealed) {
			t.Fatalf("Open of what was sealed twice, %x = %x, %v", twice, once, right)
		}
	}
}

func TestP5_2FewerThanFourBytes(t *testing.T) {
	for _, b := range [][]byte{nil, {}, {0}, {0, 0}, {0, 0, 0}, {1, 2, 3}, {0xFF, 0xFF, 0xFF}} {
		refuse(t, b)
	}
	// What stands behind a short list's end is no part of it.
	refuse(t, []byte{0, 0, 0, 0}[:3])
	refuse(t, []byte{0, 0, 0, 0}[:0])
}

func TestP5_2JustFourBytes(t *testing.T) {
	if got, right := Open([]byte{0, 0, 0, 0}); !right || len(got) != 0 {
		t.Errorf("Open of four noughts = %x, %v", got, right)
	}
	for i := range 32 {
		b := []byte{0, 0, 0, 0}
		b[i/8] ^= 1 << (i % 8)
		refuse(t, b)
	}
	refuse(t, []byte{0xFF, 0xFF, 0xFF, 0xFF})
}

func TestP5_2AnyOneBitTurned(t *testing.T) {
	r := rand.New(rand.NewSource(55))
	for _, n := range []int{1, 2, 9, 64, 220} {
		sealed := Seal(someBytes(r, n))
		for i := range 8 * len(sealed) {
			turned := slices.Clone(sealed)
			turned[i/8] ^= 1 << (i % 8)
			refuse(t, turned)
		}
	}
}

func TestP5_2WrongSums(t *testing.T) {
	refuse(t, []byte("a\xE8\xB7\xBE\x43"))
	refuse(t, []byte("a\xBC\x41\x48\x17"))
	sealed := Seal([]byte("123456789"))
	for i := range len(sealed) {
		refuse(t, sealed[:i])
	}
	refuse(t, sealed[1:])
	refuse(t, append(slices.Clone(sealed), 0))
	refuse(t, append([]byte{0}, sealed...))
	refuse(t, append(slices.Clone(sealed), 0, 0, 0, 0))
}

func TestP5_2BytesStay(t *testing.T) {
	whole, b := withRoom("123456789")
	before := slices.Clone(whole)
	Seal(b)
	if !bytes.Equal(whole, before) {
		t.Errorf("Seal changed %x to %x", before, whole)
	}
	for _, text := range []string{"", "\x00\x00\x00\x00", "a\x43\xBE\xB7\xE8", "b\x43\xBE\xB7\xE8"} {
		whole, b := withRoom(text)
		before := slices.Clone(whole)
		Open(b)
		if !bytes.Equal(whole, before) {
			t.Errorf("Open changed %x to %x", before, whole)
		}
	}
}

func TestP5_2AnswersAreNewMemory(t *testing.T) {
	for _, text := range []string{"", "a", "123456789"} {
		whole, b := withRoom(text)
		before := slices.Clone(whole)
		first, second := Seal(b), Seal(b)
		fill(first, 'x')
		if !bytes.Equal(whole, before) {
			t.Errorf("what Seal(%q) answered shares with what was handed in", text)
		}
		if !bytes.Equal(second[:len(text)], []byte(text)) {
			t.Errorf("two answers of Seal(%q) share", text)
		}

		whole, b = withRoom(string(second))
		before = slices.Clone(whole)
		opened, _ := Open(b)
		again, _ := Open(b)
		fill(opened, 'x')
		if !bytes.Equal(whole, before) {
			t.Errorf("what Open(%q) answered shares with what was handed in", second)
		}
		if string(again) != text {
			t.Errorf("two answers of Open(%q) share: %q", second, again)
		}
		fill(whole, 'y')
		if string(again) != text {
			t.Errorf("what Open answered went with what was handed in: %q", again)
		}
	}
}

func refuse(t *testing.T, b []byte) {
	t.Helper()
	if got, right := Open(b); right || len(got) != 0 {
		t.Errorf("Open(%x) = %x, %v", b, got, right)
	}
}

// withRoom is an array's whole, and a text ahead of spare room in it that is not empty.
func withRoom(text string) (whole, b []byte) {
	whole = append([]byte(text), "what lies behind"...)
	return whole, whole[:len(text)]
}

// fill writes a list's spare room too.
func fill(b []byte, c byte) {
	b = b[:cap(b)]
	for i := range b {
		b[i] = c
	}
}

func someBytes(r *rand.Rand, n int) []byte {
	b := make([]byte, n)
	r.Read(b)
	return b
}
