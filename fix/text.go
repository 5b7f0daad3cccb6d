package fix

import (
	"strconv"
	"strings"

	"fourwatch/api"
)

// Text is a number, exactly, in decimal digits.
func Text(a int) string {
	m := size(a)
	text := strconv.FormatUint(m>>32, 10)
	if a < 0 {
		text = "-" + text
	}
	rest := m & (api.One - 1)
	if rest == 0 {
		return text
	}
	return text + "." + fractionText(rest)
}

// fractionText ends, as each digit takes one factor 2 of the 2^32 away; for the same reason the last one is no nought.
func fractionText(rest uint64) string {
	var text []byte
	for rest != 0 {
		rest *= 10
		text = append(text, '0'+byte(rest>>32))
		rest &= api.One - 1
	}
	return string(text)
}

// Read is the number nearest to a decimal text; halves go up.
func Read(s string) (int, api.Errno) {
	if len(s) > api.MaxText {
		return 0, api.ErrLong
	}
	rest, negative := strings.CutPrefix(s, "-")
	whole, fraction, pointed := strings.Cut(rest, ".")
	if !isWhole(whole) || pointed && !isDigits(fraction) {
		return 0, api.ErrForm
	}
	a, beyond := stop(negative, readWhole(whole)<<32+readFraction(fraction, negative))
	if beyond {
		return 0, api.ErrRange
	}
	return a, api.OK
}

func isWhole(s string) bool {
	return isDigits(s) && (s == "0" || s[0] != '0')
}

func isDigits(s string) bool {
	for i := range len(s) {
		if s[i] < '0' || s[i] > '9' {
			return false
		}
	}
	return s != ""
}

// readWhole is the number of a run of digits, but never more than 2^31 + 1: that is beyond both ends, and 2^32 times it has a place in 64 bits with any fraction.
func readWhole(s string) uint64 {
	n := uint64(0)
	for i := range len(s) {
		n = min(n*10+uint64(s[i]-'0'), 1<<31+1)
	}
	return n
}

// readFraction is 2^32 times the fraction whose digits these are, to the nearest; a half counts as one more unless the number is below 0, where up is towards 0.
func readFraction(s string, negative bool) uint64 {
	digits := []byte(s)
	double := func() uint64 {
		carry := byte(0)
		for i := len(digits) - 1; i >= 0; i-- {
			d := 2*(digits[i]-'0') + carry
			digits[i] = '0' + d%10
			carry = d / 10
		}
		return uint64(carry)
	}
	n := uint64(0)
	for range 32 {
		n = n<<1 | double()
	}
	next := double()
	nothingBehind := strings.Trim(string(digits), "0") == ""
	if negative && nothingBehind {
		return n
	}
	return n + next
}
