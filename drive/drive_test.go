package drive

import (
	"fmt"
	"math/rand"
	"strings"
	"testing"

	"fourwatch/api"
)

// four is what four computers tell that are alike: a report's text behind 'node N'.
func four(rest string) string {
	return few(rest, 0, 1, 2, 3)
}

// few is the same of some of them.
func few(rest string, nodes ...int) string {
	text := ""
	for _, node := range nodes {
		text += fmt.Sprintf("node %d %s\n", node, rest)
	}
	return text
}

func TestP14_1AtFirst(t *testing.T) {
	plays(t, "", "")
	plays(t, "frame", four("frame 0 0>0 0>0 0>0 135deab1"))
	p := begin()
	want := firstScene()
	if got, wanted := all(p), all(&player{four: want.four, next: want.next}); got != wanted {
		t.Errorf("at first: %s; want %s", got, wanted)
	}
}

// Each number of the first tuning is to be seen: the same tuning tells the same, any other one tells something else.
func TestP14_1FirstTuning(t *testing.T) {
	rest := "\nread 0 6.9 7 1\nread 1 6.9 7 1\nread 2 6.9 7 1\nread 3 6.9 7 1\nframe\nframe\nframe"
	first := checkPlay(t, rest)
	if !strings.HasPrefix(first, "node 0 frame 0 6.8999999999068677425384521484375>4.600000000558793544769287109375 7>0 1>") {
		t.Errorf("at first: %s", first)
	}
	plays(t, "tune 1 1 1 16"+rest, first)
	for _, tuning := range []string{"0 1 1 16", "2 1 1 16", "1 0 1 16", "1 2 1 16", "1 1 0.9 16", "1 1 2 16", "1 1 1 15", "1 1 1 17"} {
		if checkPlay(t, "tune "+tuning+rest) == first {
			t.Errorf("tune %s is as at first", tuning)
		}
	}
}

func TestP14_1MaxScript(t *testing.T) {
	plays(t, strings.Repeat("x", 20000), "wrong 1\n")
	refused(t, strings.Repeat("x", 20001), api.ErrLong)
	refused(t, "frame\n"+strings.Repeat("x", 20000), api.ErrLong)
	refused(t, strings.Repeat("x", 1000000), api.ErrLong)
	// Bytes are counted, not runes.
	plays(t, strings.Repeat("é", 10000), "wrong 1\n")
	refused(t, strings.Repeat("é", 10001), api.ErrLong)
	// 20000 bytes that can all be done, and one more, though it is a line's end.
	script := "bad 3\n" + strings.Repeat("lie 4 1 5"+times("1.00000", 24)+"\n", 98)
	script += strings.Repeat("\n", 20000-5-len(script)) + "frame"
	if got := checkPlay(t, script); len(script) != 20000 || strings.Count(got, "node") != 3 || strings.Contains(got, "wrong") {
		t.Errorf("%d bytes: %s", len(script), got)
	}
	refused(t, script+"\n", api.ErrLong)
}

func TestP14_1MaxLines(t *testing.T) {
	got := checkPlay(t, strings.Repeat("frame\n", 399)+"frame")
	if strings.Count(got, "\n") != 1600 || !strings.Contains(got, "\nnode 3 frame 399 ") {
		t.Errorf("400 frames: %d lines are told", strings.Count(got, "\n"))
	}
	plays(t, strings.Repeat("\n", 399), "")
	plays(t, strings.Repeat("x\n", 399), wrongs(399))
	plays(t, strings.Repeat("x\n", 399)+"x", wrongs(400))
	// What stands behind the last byte 10 is a line, though it is empty.
	refused(t, strings.Repeat("frame\n", 400), api.ErrFull)
	refused(t, strings.Repeat("\n", 400), api.ErrFull)
	refused(t, strings.Repeat("x\n", 400), api.ErrFull)
	refused(t, strings.Repeat("x\n", 400)+"x", api.ErrFull)
	refused(t, strings.Repeat("\n", 20000), api.ErrFull)
	refused(t, strings.Repeat("x", 19600)+strings.Repeat("\n", 400), api.ErrFull)
}

// wrongs is what so many wrong lines tell.
func wrongs(many int) string {
	text := ""
	for n := range many {
		text += fmt.Sprintf("wrong %d\n", n+1)
	}
	return text
}

func TestP14_1TooLongGoesAhead(t *testing.T) {
	refused(t, strings.Repeat("\n", 20001), api.ErrLong)
	refused(t, strings.Repeat("x", 19601)+strings.Repeat("\n", 400), api.ErrLong)
	refused(t, strings.Repeat("frame\n", 4000), api.ErrLong)
}

// Only a byte 10 ends a line.
func TestP14_1LineEnds(t *testing.T) {
	plays(t, "x\nx", "wrong 1\nwrong 2\n")
	for _, end := range []string{"\r", "\v", "\f", "\x00", "\x1e", "\u0085", "\u2028", "\\n", ";"} {
		plays(t, "good"+end+"good", "wrong 1\n")
		plays(t, "good"+end+"\ngood"+end+"\n", "wrong 1\nwrong 2\n")
	}
	frame := checkPlay(t, "frame")
	plays(t, "frame\n", frame)
	plays(t, "\nframe", frame)
	plays(t, "\n\nframe\n\n\n", frame)
}

// What a script tells hangs on the script alone, not on those played ahead of it.
func TestP14_1Anew(t *testing.T) {
	want := checkPlay(t, lines(busy()...))
	for _, between := range []string{"bad 0\nframe", "tune 2 2 2 2\nread 0 5 5 5\nframe", "bad 1\nlie 0 0 1 4 4 4", "x", strings.Repeat("\n", 400), ""} {
		checkPlay(t, between)
		plays(t, lines(busy()...), want)
	}
}

// Whole scripts, held against the chapter told anew.
func TestP14_2AnyScript(t *testing.T) {
	r := rand.New(rand.NewSource(142))
	seen := map[string]int{}
	for range 150 {
		got := checkPlay(t, anyScript(r, []int{1, 5, 30, 100, 100, 200, 400}[r.Intn(7)]))
		for _, word := range []string{"node", "wrong", " weak", " out0", " out1", " out2", " out3", "-", "."} {
			seen[word] += strings.Count(got, word)
		}
	}
	for word, count := range seen {
		if count < 100 {
			t.Errorf("%q is told %d times", word, count)
		}
	}
}

// Texts that are hardly scripts: nothing panics, and every line but the empty one is told of.
func TestP14_3AnyText(t *testing.T) {
	r := rand.New(rand.NewSource(143))
	pieces := []string{"frame", "bad", "good", "lie", "tune", "read", " ", " ", " ", "\n", "\n", "0", "1", "3", "-1", "0.5", ".", "\x00", "\xff", "é", "\r"}
	for range 2000 {
		text := ""
		for range r.Intn(60) {
			text += pieces[r.Intn(len(pieces))]
		}
		checkPlay(t, text)
		b := make([]byte, r.Intn(200))
		r.Read(b)
		checkPlay(t, string(b))
	}
}
