package fix

import (
	"math/big"
	"math/rand"
	"regexp"
	"strings"
	"testing"

	"fourwatch/api"
)

// wantText is the exact value with all 32 digits, less the noughts at its end.
func wantText(a int) string {
	s := new(big.Rat).SetFrac(bigOf(a), one).FloatString(32)
	return strings.TrimSuffix(strings.TrimRight(s, "0"), ".")
}

func TestP1_6Text(t *testing.T) {
	for a, want := range map[int]string{
		0:                  "0",
		api.One:            "1",
		5 * api.One:        "5",
		10 * api.One:       "10",
		-5 * api.One:       "-5",
		1 << 31:            "0.5",
		-1 << 31:           "-0.5",
		-1 << 30:           "-0.25",
		-api.One - 1<<29:   "-1.125",
		api.One/16 + 3<<32: "3.0625",
		1:                  "0.00000000023283064365386962890625",
		-1:                 "-0.00000000023283064365386962890625",
		api.MaxFix:         "2147483647.99999999976716935634613037109375",
		api.MinFix:         "-2147483648",
		api.MinFix + 1:     "-2147483647.99999999976716935634613037109375",
	} {
		if got := Text(a); got != want {
			t.Errorf("Text(%d): %s; wanted %s", a, got, want)
		}
	}
}

func TestP1_6TextIsExact(t *testing.T) {
	for _, a := range append(edges(), someNumbers(100000)...) {
		if got, want := Text(a), wantText(a); got != want {
			t.Fatalf("Text(%d): %s; wanted %s", a, got, want)
		}
	}
}

var form = regexp.MustCompile(`^-?(0|[1-9][0-9]*)(\.[0-9]+)?$`)

func wantRead(s string) (int, api.Errno) {
	if len(s) > 60 {
		return 0, api.ErrLong
	}
	if !form.MatchString(s) {
		return 0, api.ErrForm
	}
	value, _ := new(big.Rat).SetString(s)
	n := nearest(new(big.Int).Mul(value.Num(), one), value.Denom())
	a, beyond := stopped(n)
	if beyond {
		return 0, api.ErrRange
	}
	return a, api.OK
}

func compareRead(t *testing.T, s string) {
	t.Helper()
	got, e := Read(s)
	want, wantE := wantRead(s)
	if got != want || e != wantE {
		t.Fatalf("Read(%q): %d, %d; wanted %d, %d", s, got, e, want, wantE)
	}
}

func TestP1_7Read(t *testing.T) {
	for s, want := range map[string]int{
		"0": 0, "-0": 0, "0.0": 0, "-0.0": 0, "-0.000": 0,
		"1": api.One, "10": 10 * api.One, "-7": -7 * api.One,
		"0.5": 1 << 31, "-0.5": -1 << 31, "1.50": 3 << 31, "1.5000000000": 3 << 31, "0.1": 429496730, "-0.1": -429496730,
		"2147483647": (1<<31 - 1) * api.One, "-2147483648": api.MinFix, "-2147483648.0": api.MinFix,
		"0.00000000023283064365386962890625":   1,
		"0.00000000011641532182693481445312":   0,
		"0.000000000116415321826934814453125":  1,
		"-0.000000000116415321826934814453125": 0,
		"-0.000000000116415321826934814453126": -1,
		"0.00000000034924596548080444335937":   1,
		"0.000000000349245965480804443359375":  2,
		"-0.000000000349245965480804443359375": -1,
		"0.99999999999999999999":               api.One,
		"-0.99999999999999999999":              -api.One,
	} {
		if got, e := Read(s); got != want || e != api.OK {
			t.Errorf("Read(%s): %d, %d; wanted %d, 0", s, got, e, want)
		}
	}
}

func TestP1_7ReadAtTheEnds(t *testing.T) {
	for s, want := range map[string]int{
		"2147483647.99999999976716935634613037109375":    api.MaxFix,
		"2147483647.9999999998":                          api.MaxFix,
		"2147483647.999999999883584678173065185546874":   api.MaxFix,
		"-2147483648.000000000116415321826934814453125":  api.MinFix,
		"-2147483647.999999999883584678173065185546875":  api.MinFix + 1,
		"-2147483647.9999999998835846781730651855468751": api.MinFix,
	} {
		if got, e := Read(s); got != want || e != api.OK {
			t.Errorf("Read(%s): %d, %d; wanted %d, 0", s, got, e, want)
		}
	}
	for _, s := range []string{
		"2147483647.999999999883584678173065185546875",
		"2147483647.99999999999",
		"2147483648", "2147483649", "4294967296", "4294967297.5", "18446744073709551616",
		"-2147483648.0000000001164153218269348144531251",
		"-2147483648.1", "-2147483649", "-4294967296", "-18446744073709551616",
		strings.Repeat("9", 60), "-" + strings.Repeat("9", 59),
	} {
		if got, e := Read(s); got != 0 || e != api.ErrRange {
			t.Errorf("Read(%s): %d, %d; wanted 0, ErrRange", s, got, e)
		}
	}
}

func TestP1_7ReadLong(t *testing.T) {
	for s, want := range map[string]int{
		"1." + strings.Repeat("0", 58):        api.One,
		"0." + strings.Repeat("9", 58):        api.One,
		"-0." + strings.Repeat("0", 57):       0,
		"-1.5" + strings.Repeat("0", 56):      -3 << 31,
		"0.5" + strings.Repeat("0", 56) + "1": 1 << 31,
	} {
		if got, e := Read(s); len(s) != 60 || got != want || e != api.OK {
			t.Errorf("Read(%s), %d bytes: %d, %d; wanted %d, 0", s, len(s), got, e, want)
		}
	}
	for _, s := range []string{
		"1." + strings.Repeat("0", 59), strings.Repeat("9", 61), strings.Repeat("x", 61), strings.Repeat("0", 100), strings.Repeat("-", 5000),
	} {
		if got, e := Read(s); got != 0 || e != api.ErrLong {
			t.Errorf("Read(%s): %d, %d; wanted 0, ErrLong", s, got, e)
		}
	}
}

func TestP1_7ReadOtherForms(t *testing.T) {
	for _, s := range []string{
		"", "-", ".", "-.", ".5", "-.5", "5.", "-5.", "0.", "05", "00", "-00", "-05", "00.5", "01.5", "+1", "--1", "-+1", "1-", "1.-5", "1.2.3", "1..2", "1 ", " 1", "1 2", "1\n", "1\x00", "1e5", "0x1", "1_000", "1,5", "a", "1a", "1.a", "1.5a", "/", ":", "0./", "0.:", "Inf", "NaN",
		"\xff", "1\xff", "\u0661", "\uff11", "1.\u0665", "\u22121",
		"99999999999999999999x", "2147483648.", strings.Repeat("x", 60),
	} {
		if got, e := Read(s); got != 0 || e != api.ErrForm {
			t.Errorf("Read(%q): %d, %d; wanted 0, ErrForm", s, got, e)
		}
	}
}

func TestP1_7ReadOfText(t *testing.T) {
	for _, a := range append(edges(), someNumbers(100000)...) {
		if got, e := Read(Text(a)); got != a || e != api.OK {
			t.Fatalf("Read(%s): %d, %d; wanted %d, 0", Text(a), got, e, a)
		}
	}
}

// halfway is the text of the value that lies a half of the last place above a.
func halfway(a int) string {
	n := new(big.Int).Lsh(bigOf(a), 1)
	n.Add(n, big.NewInt(1))
	return new(big.Rat).SetFrac(n, new(big.Int).Lsh(one, 1)).FloatString(33)
}

func TestP1_7ReadHalves(t *testing.T) {
	for _, a := range append(edges(), someNumbers(20000)...) {
		s := halfway(a)
		compareRead(t, s)
		compareRead(t, s+"0")
		compareRead(t, s+"00000000000001")
		// The last digit of a half is a 5.
		compareRead(t, s[:len(s)-1]+"4999")
	}
}

func TestP1_7ReadAnyText(t *testing.T) {
	r := rand.New(rand.NewSource(2))
	for range 300000 {
		b := make([]byte, r.Intn(14))
		for i := range b {
			b[i] = "00123456789..-x"[r.Intn(15)]
		}
		compareRead(t, string(b))
	}
	for range 100000 {
		b := []byte("2147483647.")
		for range r.Intn(53) {
			b = append(b, "0123456789"[r.Intn(10)])
		}
		b[r.Intn(10)] = '0' + byte(r.Intn(10))
		compareRead(t, string(b))
		compareRead(t, "-"+string(b))
	}
}
