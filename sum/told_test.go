package sum

// told goes bit by bit, as P5.1 tells it, with no table, and with the register's bits kept one by one.
func told(s int, b []byte) int {
	var register [32]bool
	for i := range register {
		register[i] = s>>i&1 == 0
	}
	for _, c := range b {
		for i := range 8 {
			differed := register[0] != (c>>i&1 == 1)
			copy(register[:], register[1:])
			register[31] = false
			if differed {
				combine(&register, 0xEDB88320)
			}
		}
	}
	result := 0
	for i, bit := range register {
		if !bit {
			result += 1 << i
		}
	}
	return result
}

func combine(register *[32]bool, with int) {
	for i := range register {
		register[i] = register[i] != (with>>i&1 == 1)
	}
}
