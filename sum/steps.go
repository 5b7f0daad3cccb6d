package sum

// mixed is what the register is combined with where its lowest bit and the next bit differ.
const mixed = 0xEDB88320

// steps tells for each byte what eight steps make of a register that holds it alone. As the steps only move and combine
// bits, a byte of the text can be combined with the register's lowest byte at once, and the three upper bytes come down
// as they are.
func steps() [256]uint32 {
	var moved [256]uint32
	for i := range moved {
		register := uint32(i)
		for range 8 {
			register = step(register)
		}
		moved[i] = register
	}
	return moved
}

func step(register uint32) uint32 {
	if register&1 == 0 {
		return register >> 1
	}
	return register>>1 ^ mixed
}
