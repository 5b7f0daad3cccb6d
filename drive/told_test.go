package drive

import (
	"encoding/binary"
	"fmt"
	"hash/crc32"
	"math"
	"math/big"
	"math/rand"
	"regexp"
	"strconv"
	"strings"
	"testing"

	"fourwatch/api"
	"fourwatch/cluster"
	"fourwatch/fix"
)

const (
	one = api.One
	top = math.MaxInt
	low = math.MinInt
)

var (
	tuneForm = regexp.MustCompile(`^tune ([^ ]+) ([^ ]+) ([^ ]+) ([^ ]+)$`)
	readForm = regexp.MustCompile(`^read ([0-3]) ([^ ]+) ([^ ]+) ([^ ]+)$`)
	badForm  = regexp.MustCompile(`^bad ([0-3])$`)
	lieForm  = regexp.MustCompile(`^lie ([0-4]) ([0-3]) ([1-5])((?: [^ ]+){0,24})$`)
)

// A scene is what P14.1 tells of at first, and what lines change.
type scene struct {
	four api.Cluster
	next api.Input
}

func firstScene() scene {
	return scene{cluster.Begin(api.Tuning{Dt: 1 << 32, Q: 1 << 32, R: 1 << 32, Gate: 1 << 36}), api.Input{Bad: -1}}
}

// toldPlay is the chapter as it is told, line by line.
func toldPlay(script string) (string, api.Errno) {
	switch {
	case len(script) >= 20001:
		return "", api.ErrLong
	case strings.Count(script, "\n") >= 400:
		return "", api.ErrFull
	}
	s, all := firstScene(), ""
	place, more := 0, true
	for more {
		var line string
		line, script, more = strings.Cut(script, "\n")
		place++
		after, told, done := toldLine(s, line)
		if !done {
			after, told = s, fmt.Sprintf("wrong %d\n", place)
		}
		s, all = after, all+told
	}
	return all, api.OK
}

// toldLine is the scene behind a line, what that tells, and whether it can be done.
func toldLine(s scene, line string) (scene, string, bool) {
	switch line {
	case "":
		return s, "", true
	case "good":
		s.next.Bad, s.next.Lies = -1, nil
		return s, "", true
	case "frame":
		return toldFrame(s)
	}
	if m := tuneForm.FindStringSubmatch(line); m != nil {
		l, right := toldNumbers(m[1:])
		if right {
			s.four = cluster.Begin(api.Tuning{Dt: l[0], Q: l[1], R: l[2], Gate: l[3]})
		}
		return s, "", right
	}
	if m := readForm.FindStringSubmatch(line); m != nil {
		l, right := toldNumbers(m[2:])
		if right {
			s.next.Read[number(m[1])] = [3]int(l)
		}
		return s, "", right
	}
	if m := badForm.FindStringSubmatch(line); m != nil {
		s.next.Bad = number(m[1])
		return s, "", true
	}
	if m := lieForm.FindStringSubmatch(line); m != nil {
		// The first piece stands ahead of the first blank: it is empty.
		l, right := toldNumbers(strings.Split(m[4], " ")[1:])
		if !right || s.next.Bad == -1 || len(s.next.Lies) >= 400 {
			return s, "", false
		}
		b := bytesOf(number(m[3]), s.next.Bad, s.four.Frame, l...)
		s.next.Lies = append(s.next.Lies[:len(s.next.Lies):len(s.next.Lies)], api.Lie{Phase: number(m[1]), To: number(m[2]), Bytes: b})
		return s, "", true
	}
	return s, "", false
}

func toldFrame(s scene) (scene, string, bool) {
	after, reports, errno := cluster.Frame(s.four, s.next)
	all := ""
	for _, r := range reports {
		all += toldReport(r)
	}
	s.four, s.next.Lies = after, nil
	return s, all, errno == api.OK
}

// toldReport is P14.4 as it is told.
func toldReport(r api.Report) string {
	text := fmt.Sprintf("node %d frame %d", r.Node, r.Frame)
	for axis := range 3 {
		text += " " + exact(r.Used[axis]) + ">" + exact(r.Place[axis])
	}
	text += fmt.Sprintf(" %x", r.Digest)
	if !r.Strong {
		text += " weak"
	}
	for node := range 4 {
		if !r.In[node] {
			text += fmt.Sprintf(" out%d", node)
		}
	}
	return text + "\n"
}

// exact is a fixed-point number in decimal digits.
func exact(a int) string {
	text := new(big.Rat).SetFrac(big.NewInt(int64(a)), big.NewInt(one)).FloatString(32)
	return strings.TrimSuffix(strings.TrimRight(text, "0"), ".")
}

func toldNumbers(words []string) ([]int, bool) {
	l := []int{}
	for _, word := range words {
		n, errno := fix.Read(word)
		if errno != api.OK {
			return nil, false
		}
		l = append(l, n)
	}
	return l, true
}

func number(digits string) int {
	n, err := strconv.Atoi(digits)
	if err != nil {
		panic("no digits")
	}
	return n
}

// bytesOf is a right message in bytes, as chapter 6 tells them.
func bytesOf(kind, from, frame int, vals ...int) []byte {
	b := []byte{'W', byte(kind), byte(from)}
	b = append(binary.BigEndian.AppendUint32(b, uint32(frame)), byte(len(vals)))
	for _, v := range vals {
		b = binary.BigEndian.AppendUint64(b, uint64(v))
	}
	return binary.LittleEndian.AppendUint32(b, crc32.ChecksumIEEE(b))
}

// checkPlay holds Play against what the chapter tells; it is what the script tells.
func checkPlay(t *testing.T, script string) string {
	t.Helper()
	want, wantErrno := toldPlay(script)
	got, errno := Play(script)
	if got != want || errno != wantErrno {
		t.Errorf("Play(%q): %s; errors %d and %d", script, differ(got, want), errno, wantErrno)
	}
	return got
}

// plays holds Play to tell just this.
func plays(t *testing.T, script, want string) {
	t.Helper()
	got, errno := Play(script)
	if got != want || errno != api.OK {
		t.Errorf("Play(%q): %s; error %d", script, differ(got, want), errno)
	}
}

// differ tells the first lines in which two texts differ.
func differ(got, want string) string {
	for got != "" || want != "" {
		var a, b string
		a, got, _ = strings.Cut(got, "\n")
		b, want, _ = strings.Cut(want, "\n")
		if a != b {
			return fmt.Sprintf("%q; want %q", a, b)
		}
	}
	return "the texts differ in line ends at most"
}

// refused holds Play to answer an error alone.
func refused(t *testing.T, script string, want api.Errno) {
	t.Helper()
	got, errno := Play(script)
	if got != "" || errno != want {
		t.Errorf("Play of %d bytes: %q, %d; want error %d alone", len(script), got, errno, want)
	}
}

// lines is a script of these lines.
func lines(l ...string) string { return strings.Join(l, "\n") }

// times is a text so many times, with a blank ahead of each.
func times(text string, many int) string { return strings.Repeat(" "+text, many) }

// behind is a player behind these lines, all of which can be done.
func behind(t *testing.T, l ...string) *player {
	t.Helper()
	p := begin()
	for _, line := range l {
		if !p.play(line) {
			t.Fatalf("%q can't be done", line)
		}
	}
	return p
}

// all is whatever a player has, in words.
func all(p *player) string {
	return fmt.Sprintf("%#v %#v %q", p.four, p.next, p.told.String())
}

// anyNumber is a number's text, a wrong one now and then.
func anyNumber(r *rand.Rand) string {
	switch r.Intn(40) {
	case 0:
		l := wrongNumbers()
		return l[r.Intn(len(l))]
	case 1, 2:
		l := []string{"-2147483648", "2147483647.9999999998", "-0", "0.5", "-0.00000000023283064365386962890625", "1.250"}
		return l[r.Intn(len(l))]
	case 3, 4:
		return fix.Text(int(r.Uint64()))
	case 5, 6, 7, 8, 9, 10:
		return fix.Text(r.Intn(20*one) - 10*one)
	}
	return strconv.Itoa(r.Intn(5) - 1)
}

func anyNumbers(r *rand.Rand, many int) string {
	text := ""
	for range many {
		text += " " + anyNumber(r)
	}
	return text
}

// anyLie is mostly of the kind and the size of its phase, often with one number all over.
func anyLie(r *rand.Rand) string {
	phase := r.Intn(5)
	kind, size := []int{1, 2, 3, 2, 5}[phase], []int{3, 12, 1, 4, 24}[phase]
	switch r.Intn(12) {
	case 0:
		kind = r.Intn(10)
	case 1:
		size = r.Intn(28)
	case 2:
		phase = r.Intn(10)
	}
	head := fmt.Sprintf("lie %d %d %d", phase, r.Intn(4+r.Intn(2)), kind)
	if r.Intn(2) == 0 {
		return head + times(anyNumber(r), size)
	}
	return head + anyNumbers(r, size)
}

// anyLine is a line that can mostly be done.
func anyLine(r *rand.Rand) string {
	switch k := r.Intn(100); {
	case k < 40:
		return "frame"
	case k < 43:
		return "tune" + anyNumbers(r, 3) + " 100"
	case k < 60:
		return "read " + strconv.Itoa(r.Intn(4)) + anyNumbers(r, 3)
	case k < 66:
		return "bad " + strconv.Itoa(r.Intn(4+r.Intn(3)))
	case k < 69:
		return "good"
	case k < 94:
		return anyLie(r)
	case k < 96:
		return ""
	}
	l := wrongLines()
	return l[r.Intn(len(l))]
}

// anyScript is so many such lines, cut off if they are too long.
func anyScript(r *rand.Rand, many int) string {
	l := []string{}
	for range many {
		l = append(l, anyLine(r))
	}
	script := lines(l...)
	return script[:min(len(script), 20000)]
}
