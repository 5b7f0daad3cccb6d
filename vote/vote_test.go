package vote

import (
	"math/rand"
	"testing"
)

// checkVote looks at the whole answer: Agree is always of four, also where none is in.
func checkVote(t *testing.T, l [4]int, in [4]bool, want verdict) {
	t.Helper()
	got := Vote(l, in)
	if len(got.Agree) != 4 {
		t.Errorf("Vote(%v, %v): %v; want an Agree of four", l, in, got)
		return
	}
	if (verdict{got.Value, got.Strong, [4]bool(got.Agree)}) != want {
		t.Errorf("Vote(%v, %v): %v; want %v", l, in, got, want)
	}
}

func TestP9_1AllIn(t *testing.T) {
	for _, c := range []struct {
		l      [4]int
		value  int
		strong bool
		agree  string
	}{
		{[4]int{5, 5, 5, 5}, 5, true, "++++"},
		{[4]int{5, 5, 5, 6}, 5, true, "+++-"},
		{[4]int{5, 5, 6, 5}, 5, true, "++-+"},
		{[4]int{5, 6, 5, 5}, 5, true, "+-++"},
		{[4]int{6, 5, 5, 5}, 5, true, "-+++"},
		{[4]int{5, 5, 6, 6}, 5, false, "++--"},
		{[4]int{6, 6, 5, 5}, 6, false, "++--"},
		{[4]int{5, 6, 5, 6}, 5, false, "+-+-"},
		{[4]int{5, 6, 6, 5}, 5, false, "+--+"},
		{[4]int{5, 5, 6, 7}, 5, false, "++--"},
		{[4]int{6, 5, 5, 7}, 5, false, "-++-"},
		{[4]int{6, 5, 7, 5}, 5, false, "-+-+"},
		{[4]int{6, 7, 5, 5}, 5, false, "--++"},
		{[4]int{7, 6, 5, 5}, 5, false, "--++"},
		{[4]int{5, 6, 7, 8}, 5, false, "+---"},
		{[4]int{8, 7, 6, 5}, 8, false, "+---"},
		{[4]int{-8, -7, -6, -7}, -7, false, "-+-+"},
	} {
		checkVote(t, c.l, those("++++"), verdict{c.value, c.strong, those(c.agree)})
	}
}

// Each way in which four votes can be alike and different, with each set of nodes in.
func TestP9_1EachSet(t *testing.T) {
	for n := range 256 {
		l := [4]int{n & 3, n >> 2 & 3, n >> 4 & 3, n >> 6}
		for _, in := range eachIn() {
			checkVote(t, l, in, toldVote(l, in))
		}
	}
}

// As many votes for one number as for another: that of the lowest node that is in, whatever those say that are out.
func TestP9_1LowestNode(t *testing.T) {
	for _, c := range []struct {
		l     [4]int
		in    string
		value int
		agree string
	}{
		{[4]int{6, 5, 6, 7}, "-++-", 5, "-+--"},
		{[4]int{6, 5, 6, 7}, "-+++", 5, "-+--"},
		{[4]int{7, 5, 6, 7}, "-+++", 5, "-+--"},
		{[4]int{6, 6, 5, 6}, "--++", 5, "--+-"},
		{[4]int{5, 6, 6, 5}, "--++", 6, "-++-"},
		{[4]int{5, 6, 7, 5}, "-+-+", 6, "-+--"},
		{[4]int{6, 6, 6, 5}, "+--+", 6, "+++-"},
		{[4]int{5, 6, 6, 5}, "++++", 5, "+--+"},
		{[4]int{7, 5, 6, 5}, "+-++", 7, "+---"},
		{[4]int{9, 1, 1, 9}, "+-+-", 9, "+--+"},
		{[4]int{1, 9, 9, 1}, "+-+-", 1, "+--+"},
	} {
		checkVote(t, c.l, those(c.in), verdict{c.value, false, those(c.agree)})
	}
}

// A vote that most have goes ahead, though a lower node has another one.
func TestP9_1MostNotLowest(t *testing.T) {
	checkVote(t, [4]int{6, 5, 5, 7}, those("+++-"), verdict{5, true, those("-++-")})
	checkVote(t, [4]int{6, 7, 5, 5}, those("+-++"), verdict{5, true, those("--++")})
	checkVote(t, [4]int{0, 6, 5, 5}, those("++++"), verdict{5, false, those("--++")})
	checkVote(t, [4]int{6, 6, 5, 5}, those("+-++"), verdict{5, true, those("--++")})
}

// Just half of those that are in is not strong; one more than half is.
func TestP9_1Half(t *testing.T) {
	for _, c := range []struct {
		l      [4]int
		in     string
		value  int
		strong bool
		agree  string
	}{
		{[4]int{1, 2, 3, 4}, "++--", 1, false, "+---"},
		{[4]int{1, 2, 1, 1}, "++--", 1, false, "+-++"},
		{[4]int{1, 1, 3, 4}, "++--", 1, true, "++--"},
		{[4]int{1, 2, 3, 4}, "+-++", 1, false, "+---"},
		{[4]int{1, 1, 3, 4}, "+-++", 1, false, "++--"},
		{[4]int{1, 2, 3, 3}, "+-++", 3, true, "--++"},
		{[4]int{3, 2, 3, 3}, "+-++", 3, true, "+-++"},
		{[4]int{1, 1, 2, 3}, "++++", 1, false, "++--"},
		{[4]int{1, 1, 2, 2}, "++++", 1, false, "++--"},
		{[4]int{1, 1, 2, 1}, "++++", 1, true, "++-+"},
		{[4]int{1, 1, 1, 1}, "++++", 1, true, "++++"},
	} {
		checkVote(t, c.l, those(c.in), verdict{c.value, c.strong, those(c.agree)})
	}
}

func TestP9_1OneAlone(t *testing.T) {
	for n := range 4 {
		in := [4]bool{}
		in[n] = true
		for _, vote := range []int{0, 1, -1, 77, top, low} {
			l := [4]int{12, 12, 12, 12}
			l[n] = vote
			checkVote(t, l, in, verdict{vote, true, in})
			checkVote(t, [4]int{vote, vote, vote, vote}, in, verdict{vote, true, those("++++")})
		}
	}
}

// None is in: no vote is agreed with, not even one of 0.
func TestP9_1NoneIn(t *testing.T) {
	for _, l := range [][4]int{
		{}, {5, 5, 5, 5}, {0, 1, 2, 3}, {1, 0, 0, 0}, {top, low, 0, -1}, {1, 2, 3, 4},
	} {
		checkVote(t, l, [4]bool{}, verdict{})
	}
}

// Agree asks the votes alone: one that is out agrees if it has the Value.
func TestP9_1AgreeOfOneOut(t *testing.T) {
	checkVote(t, [4]int{5, 5, 5, 5}, those("+++-"), verdict{5, true, those("++++")})
	checkVote(t, [4]int{5, 5, 5, 6}, those("+++-"), verdict{5, true, those("+++-")})
	checkVote(t, [4]int{6, 5, 5, 5}, those("-+++"), verdict{5, true, those("-+++")})
	checkVote(t, [4]int{6, 6, 6, 5}, those("---+"), verdict{5, true, those("---+")})
	checkVote(t, [4]int{5, 6, 5, 6}, those("-+-+"), verdict{6, true, those("-+-+")})
	checkVote(t, [4]int{5, 5, 6, 7}, those("-++-"), verdict{5, false, those("++--")})
}

func TestP9_1ValueOfNought(t *testing.T) {
	checkVote(t, [4]int{}, those("++++"), verdict{0, true, those("++++")})
	checkVote(t, [4]int{0, 0, 0, 1}, those("++++"), verdict{0, true, those("+++-")})
	checkVote(t, [4]int{1, 0, 0, 0}, those("-++-"), verdict{0, true, those("-+++")})
	checkVote(t, [4]int{0, 0, 1, 1}, those("++++"), verdict{0, false, those("++--")})
	checkVote(t, [4]int{1, 1, 0, 0}, those("++++"), verdict{1, false, those("++--")})
	checkVote(t, [4]int{0, 1, 2, 0}, those("+++-"), verdict{0, false, those("+--+")})
	checkVote(t, [4]int{-1, 0, 2, 0}, those("+++-"), verdict{-1, false, those("+---")})
}

// Votes are told apart to the last bit, also such as a float or 32 bits would take for the same.
func TestP9_1Ends(t *testing.T) {
	checkVote(t, [4]int{top, top, top, low}, those("++++"), verdict{top, true, those("+++-")})
	checkVote(t, [4]int{low, top, low, top}, those("++++"), verdict{low, false, those("+-+-")})
	checkVote(t, [4]int{low, top, top, top}, those("+-++"), verdict{top, true, those("-+++")})
	checkVote(t, [4]int{top - 1, top, top, top - 1}, those("-+++"), verdict{top, true, those("-++-")})
	checkVote(t, [4]int{low + 1, low, low + 1, low}, those("++++"), verdict{low + 1, false, those("+-+-")})
	checkVote(t, [4]int{low, low, low, low}, those("++++"), verdict{low, true, those("++++")})
	checkVote(t, [4]int{0, low, 0, low}, those("-+-+"), verdict{low, true, those("-+-+")})
	checkVote(t, [4]int{1 << 32, 0, 1 << 32, 1 << 62}, those("++++"), verdict{1 << 32, false, those("+-+-")})
}

func TestP9_1AsTold(t *testing.T) {
	r := rand.New(rand.NewSource(91))
	for range 20000 {
		l := [4]int{anyNumber(r), anyNumber(r), anyNumber(r), anyNumber(r)}
		in := eachIn()[r.Intn(16)]
		checkVote(t, l, in, toldVote(l, in))
	}
}

// The same votes have the same answer each time, and each answer its own memory, spare room too.
func TestP9_1NewMemory(t *testing.T) {
	for _, in := range eachIn() {
		l := [4]int{5, 6, 5, 6}
		first, second := Vote(l, in), Vote(l, in)
		room := first.Agree[:cap(first.Agree)]
		for i := range room {
			room[i] = !room[i]
		}
		want := toldVote(l, in)
		if [4]bool(second.Agree) != want.agree {
			t.Errorf("Vote(%v, %v): a second answer shares the first one's Agree", l, in)
		}
		checkVote(t, l, in, want)
	}
}
