package drive

import (
	"fmt"
	"strings"
	"testing"

	"fourwatch/api"
)

// wrongNumbers are words that chapter 1's Read refuses.
func wrongNumbers() []string {
	return []string{
		"", "-", "+1", ".5", "1.", "-.5", "-1.", "01", "00", "-01", "--1", "1-", "1e3", "0x1", "1_0", "1,5", "1.5.5", "a", "½", "٣", "\x00", "1\x00", "\xff", "1\t", "1\r",
		"2147483648", "-2147483649", "2147483647.99999999999", "99999999999999999999",
		"0." + strings.Repeat("1", 59), "1" + strings.Repeat("0", 60),
	}
}

// wrongDigits are words that are no DIGIT, or none from 0 to last.
func wrongDigits(last int) []string {
	l := []string{"", "00", "01", "10", "12", "-1", "-0", "+1", "1.0", "a", "x", "/", ":", "²", "٣", "\x00", "\xb2", "\t", "0\t", "\r"}
	for n := last + 1; n <= 9; n++ {
		l = append(l, fmt.Sprint(n))
	}
	return l
}

// wrongWords are lines whose first word is none of the six, with as many words behind it as each of the six has.
func wrongWords() []string {
	l := []string{}
	for _, word := range []string{"x", "Tune", "READ", "Bad", "gooD", "lIe", "FRAME", "frames", "fram", "tun", "reads", "badly", "goo", "lies", "li", "wrong", "node", "0", "-", "#", "\t", "\r", "\x00", "\xff", "ｆrame", "frame\r", "frame\x00", "\ufeffframe", "good\t", "\tgood", "bad\t1", "bad\u00a01"} {
		l = append(l, word, word+" 1", word+" 1 1 1 1", word+" 0 0 1", word+" frame")
	}
	return l
}

// wrongBlanks are lines with a blank too many.
func wrongBlanks() []string {
	l := []string{" ", "  ", "   "}
	for _, line := range []string{"tune 1 1 1 16", "read 0 1 2 3", "bad 2", "good", "lie 0 0 1", "lie 0 0 1 1 2 3", "frame"} {
		l = append(l, " "+line, line+" ", "  "+line, line+"  ", " "+line+" ")
		for i := range line {
			if line[i] == ' ' {
				l = append(l, line[:i]+" "+line[i:])
			}
		}
	}
	return l
}

// wrongCounts are lines with words too few or too many.
func wrongCounts() []string {
	return []string{
		"tune", "tune 1", "tune 1 1", "tune 1 1 1", "tune 1 1 1 16 1", "tune 1 1 1 16 1 1 1 1",
		"read", "read 0", "read 0 1", "read 0 1 2", "read 0 1 2 3 4", "read 0 1 2 3 4 5",
		"bad", "bad 1 2", "bad 1 1", "bad 1 2 3 0", "good 1", "good good", "good 0 0", "frame 1", "frame frame", "frame 0 0",
		"lie", "lie 0", "lie 0 0", "lie 0 0 1" + times("1", 25), "lie 4 3 5" + times("0", 26), "lie 0 0 1" + times("1", 100),
	}
}

// wrongPlaces are lines with one wrong word, in each place behind the first word.
func wrongPlaces() []string {
	l := []string{}
	for _, form := range []string{"tune %s 1 1 16", "tune 1 %s 1 16", "tune 1 1 %s 16", "tune 1 1 1 %s", "read 0 %s 2 3", "read 3 1 %s 3", "read 1 1 2 %s", "lie 0 0 1 %s", "lie 0 0 1 %s 2 3", "lie 0 0 1 1 %s 3", "lie 0 0 1 1 2 %s", "lie 4 3 5" + times("1", 23) + " %s"} {
		for _, word := range wrongNumbers() {
			l = append(l, fmt.Sprintf(form, word))
		}
	}
	for _, word := range wrongDigits(3) {
		l = append(l, "read "+word+" 1 2 3", "bad "+word, "lie 0 "+word+" 1 1 2 3", "lie 0 "+word+" 1")
	}
	for _, word := range wrongDigits(4) {
		l = append(l, "lie "+word+" 0 1 1 2 3", "lie "+word+" 0 1")
	}
	for _, word := range append(wrongDigits(5), "0") {
		l = append(l, "lie 0 0 "+word+" 1 2 3", "lie 0 0 "+word)
	}
	return l
}

// wrongLines are lines that can't be done, even with a bad node and room for lies.
func wrongLines() []string {
	l := append(wrongWords(), wrongBlanks()...)
	return append(append(l, wrongCounts()...), wrongPlaces()...)
}

// busy is lines behind which there are readings, a bad node and lies, and frames lie behind.
func busy() []string {
	return []string{"tune 1 0.5 2 30", "read 0 1 2 3", "read 1 -1 -2 -3", "read 2 1.5 2.5 3.5", "frame", "bad 1", "frame", "read 3 4 4 4", "lie 0 0 1 7 7 7", "lie 2 3 3 5", "lie 0 2 1 7 7 7"}
}

func TestP14_3WrongChangesNothing(t *testing.T) {
	p := behind(t, busy()...)
	was := all(p)
	for _, line := range wrongLines() {
		if p.play(line) || all(p) != was {
			t.Fatalf("%q: %s; want %s", line, all(p), was)
		}
	}
}

// The same by Play: what is told behind a wrong line is what is told without it.
func TestP14_3WrongTold(t *testing.T) {
	end := []string{"frame", "bad 3", "frame", "good", "frame"}
	before := checkPlay(t, lines(busy()...))
	whole := checkPlay(t, lines(append(busy(), end...)...))
	if len(whole) < 1000 || !strings.HasPrefix(whole, before) || strings.Contains(whole, "wrong") {
		t.Fatalf("a busy script: %s", whole)
	}
	for i, line := range wrongLines() {
		plays(t, line, "wrong 1\n")
		if i%4 == 0 {
			plays(t, lines(append(append(busy(), line), end...)...), before+"wrong 12\n"+whole[len(before):])
		}
	}
}

// A lie can't be told while none is bad: neither at first nor behind 'good'.
func TestP14_3LieOfNobody(t *testing.T) {
	p := begin()
	for _, line := range []string{"lie 0 0 1", "lie 0 1 1 1 2 3", "lie 4 3 5" + times("1", 24), "lie 2 2 3 0"} {
		was := all(p)
		if p.play(line) || all(p) != was {
			t.Errorf("none is bad: %q is done: %s", line, all(p))
		}
		plays(t, lines(line, "bad 0", line, "good", line, line, "bad 3", line), "wrong 1\nwrong 5\nwrong 6\n")
	}
}

// A script has no room for MaxLies lies beside 'bad', so a player is asked line by line.
func TestP14_3LiesFull(t *testing.T) {
	p := behind(t, "read 0 1 2 3", "bad 2")
	for i := range api.MaxLies {
		if !p.play(fmt.Sprintf("lie %d %d 3 %d", i%5, i%4, i)) || len(p.next.Lies) != i+1 {
			t.Fatalf("lie %d: there are %d", i, len(p.next.Lies))
		}
	}
	was := all(p)
	for _, line := range []string{"lie 0 0 1", "lie 0 0 1 1 2 3", "lie 2 1 3 0"} {
		if p.play(line) || all(p) != was {
			t.Errorf("one more than MaxLies: %q is done", line)
		}
	}
	if !p.play("frame") || len(p.next.Lies) != 0 || p.four.Frame != 1 || !p.play("lie 0 0 1") {
		t.Errorf("a frame of MaxLies lies can't be made: %s", all(p))
	}
	most := "bad 2" + strings.Repeat("\nlie 0 0 1 4 4 4", 398) + "\nframe"
	if got := checkPlay(t, most); strings.Count(got, "\n") != 3 || strings.Contains(got, "wrong") {
		t.Errorf("398 lies and a frame: %s", got)
	}
}

// No script comes to a frame that can't be made, so what the next one is made of is spoiled.
func TestP14_3FrameRefused(t *testing.T) {
	for name, spoil := range map[string]func(p *player){
		"a frame too high": func(p *player) { p.four.Frame = 1 << 30 },
		"a frame below 0":  func(p *player) { p.four.Frame = -1 },
		"a lie too many":   func(p *player) { p.next.Lies = make([]api.Lie, 401) },
		"a strange bad":    func(p *player) { p.next.Bad = 4 },
		"a strange Id":     func(p *player) { p.four.Nodes[2].Id = 1 },
	} {
		p := behind(t, busy()...)
		spoil(p)
		was := all(p)
		if p.play("frame") || all(p) != was {
			t.Errorf("%s: %s; want %s", name, all(p), was)
		}
	}
	p := behind(t, busy()...)
	p.four.Frame = 1<<30 - 1
	if !p.play("frame") || p.four.Frame != 1<<30 || !strings.Contains(p.told.String(), "node 3 frame 1073741823 ") {
		t.Errorf("the last frame: %s", all(p))
	}
}

func TestP14_3Places(t *testing.T) {
	want := ""
	for n := 1; n <= 400; n++ {
		plays(t, strings.Repeat("\n", n-1)+"x", fmt.Sprintf("wrong %d\n", n))
		plays(t, strings.Repeat("good\n", n-1)+"x", fmt.Sprintf("wrong %d\n", n))
		want += fmt.Sprintf("wrong %d\n", n)
		plays(t, strings.Repeat("x\n", n-1)+"x", want)
	}
	plays(t, "x\n", "wrong 1\n")
	plays(t, "x\n\n\nx\n\nx\n", "wrong 1\nwrong 4\nwrong 6\n")
	plays(t, "\n\nx\ngood\nbad 7\n\n", "wrong 3\nwrong 5\n")
	plays(t, " \n\n ", "wrong 1\nwrong 3\n")
}

func TestP14_3EmptyLines(t *testing.T) {
	for n := range 400 {
		plays(t, strings.Repeat("\n", n), "")
	}
	plain := checkPlay(t, lines(append(busy(), "frame", "bad 3", "frame")...))
	spread := strings.Join(append(busy(), "frame", "bad 3", "frame"), "\n\n\n")
	plays(t, spread, plain)
	plays(t, "\n\n"+spread+"\n\n", plain)
	p := behind(t, busy()...)
	was := all(p)
	if !p.play("") || all(p) != was {
		t.Errorf("an empty line: %s; want %s", all(p), was)
	}
}
