package wire

import "iter"

// pieceSize is how many bytes one of the Vals takes.
const pieceSize = 8

// pieces goes through bytes eight by eight; what is left of fewer than eight is no piece.
func pieces(b []byte) iter.Seq[[]byte] {
	return func(yield func([]byte) bool) {
		for at := 0; at+pieceSize <= len(b); at += pieceSize {
			if !yield(b[at : at+pieceSize]) {
				return
			}
		}
	}
}

// number is what bytes stand for, the highest first; eight of them wrap round to a number below 0 where the top bit is set.
func number(b []byte) int {
	n := uint64(0)
	for _, c := range b {
		n = n<<8 | uint64(c)
	}
	return int(n)
}

// tell adds the lowest so many bytes of a number to a list, the highest of them first.
func tell(b []byte, n, size int) []byte {
	for i := size - 1; i >= 0; i-- {
		b = append(b, byte(uint64(n)>>(8*i)))
	}
	return b
}
