package member

import (
	"slices"
	"testing"

	"fourwatch/api"
)

func TestP10_1Begin(t *testing.T) {
	want := api.Roll{In: [4]bool{true, true, true, true}}
	if got := Begin(); got != want {
		t.Errorf("Begin: %v; want %v", got, want)
	}
	r := Begin()
	r.In[2], r.Miss[1], r.Join[2] = false, 1, 2
	if got := Begin(); got != want {
		t.Errorf("Begin behind a change of the first answer: %v; want %v", got, want)
	}
	if !Good(Begin()) {
		t.Error("Begin's roll is not good")
	}
}

// The counts have no say in how many are in.
func TestP10_1Count(t *testing.T) {
	want := [16]int{0, 1, 1, 2, 1, 2, 2, 3, 1, 2, 2, 3, 2, 3, 3, 4}
	for n, in := range eachSet() {
		for _, r := range []api.Roll{
			{In: in},
			{In: in, Miss: [4]int{1, 2, 1, 2}, Join: [4]int{2, 2, 1, 1}},
			{In: in, Miss: [4]int{top, low, 9, -9}, Join: [4]int{low, -1, 3, top}},
		} {
			if got := Count(r); got != want[n] {
				t.Errorf("Count(%v): %d; want %d", r, got, want[n])
			}
		}
	}
}

func TestP10_1GoodEachRoll(t *testing.T) {
	for _, r := range eachGood() {
		if !Good(r) {
			t.Errorf("Good(%v): false", r)
		}
	}
	if !Good(api.Roll{}) {
		t.Error("a roll with none in is not good")
	}
}

// Each node in turn has each count, the three others being good.
func TestP10_1GoodBounds(t *testing.T) {
	for _, c := range []struct {
		in         bool
		miss, join int
		good       bool
	}{
		{true, 0, 0, true},
		{true, 1, 0, true},
		{true, api.MaxMiss, 0, true},
		{true, api.MaxMiss + 1, 0, false},
		{true, -1, 0, false},
		{true, top, 0, false},
		{true, low, 0, false},
		{true, 1 << 32, 0, false},
		{true, 256, 0, false},
		{true, 0, 1, false},
		{true, 0, api.MaxJoin - 1, false},
		{true, 0, -1, false},
		{true, 1, 1, false},
		{true, 1, -1, false},
		{true, 0, 1 << 32, false},
		{true, 0, low, false},
		{false, 0, 0, true},
		{false, 0, 1, true},
		{false, 0, api.MaxJoin - 1, true},
		{false, 0, api.MaxJoin, false},
		{false, 0, api.MaxJoin + 1, false},
		{false, 0, -1, false},
		{false, 0, top, false},
		{false, 0, low, false},
		{false, 0, 1 << 32, false},
		{false, 0, 256, false},
		{false, 1, 0, false},
		{false, api.MaxMiss, 0, false},
		{false, -1, 0, false},
		{false, 1, 1, false},
		{false, -1, 1, false},
		{false, 1 << 32, 0, false},
		{false, top, 0, false},
	} {
		for node := range 4 {
			for _, others := range []string{"i0 i0 i0 i0", "i2 i1 o2 i2", "o0 o0 o0 o0", "o1 o2 i1 o2"} {
				r := roll(others)
				r.In[node], r.Miss[node], r.Join[node] = c.in, c.miss, c.join
				if got := Good(r); got != c.good {
					t.Errorf("Good(%v): %v; want %v", r, got, c.good)
				}
			}
		}
	}
}

// checkStep looks at the whole answer, and at the verdict's list with its spare room.
func checkStep(t *testing.T, r api.Roll, v api.Verdict, after api.Roll, l []api.Change) {
	t.Helper()
	room := append(slices.Clone(v.Agree), true, false, true, false)
	was, roomWas := r, slices.Clone(room)
	v.Agree = room[:len(v.Agree)]
	got, changed, errno := Step(r, v)
	if errno != api.OK || got != after || !slices.Equal(changed, l) {
		t.Errorf("Step(%v, %v): %v, %v, %d; want %v, %v", was, v, got, changed, errno, after, l)
	}
	if r != was || !slices.Equal(room, roomWas) {
		t.Errorf("Step(%v, %v): what was handed in is changed: %v, %v", was, v, r, room)
	}
}

// checkRefused holds every other result to be zero beside an error.
func checkRefused(t *testing.T, r api.Roll, v api.Verdict, want api.Errno) {
	t.Helper()
	got, changed, errno := Step(r, v)
	if errno != want || got != (api.Roll{}) || len(changed) != 0 {
		t.Errorf("Step(%v, %v): %v, %v, %d; want error %d alone", r, v, got, changed, errno, want)
	}
}

func TestP10_2OneAfterTheOther(t *testing.T) {
	r := Begin()
	for i, c := range []struct{ agree, after, changes string }{
		{"++++", "i0 i0 i0 i0", ""},
		{"++-+", "i0 i0 i1 i0", ""},
		{"++++", "i0 i0 i0 i0", ""}, // on end alone
		{"++-+", "i0 i0 i1 i0", ""},
		{"++-+", "i0 i0 o0 i0", "2>"},
		{"++-+", "i0 i0 o0 i0", ""},
		{"++++", "i0 i0 o1 i0", ""},
		{"++++", "i0 i0 o2 i0", ""},
		{"++-+", "i0 i0 o0 i0", ""}, // begun anew
		{"++++", "i0 i0 o1 i0", ""},
		{"+++-", "i0 i0 o2 i1", ""},
		{"+++-", "i0 i0 i0 o0", "2<3>"},
		{"-+++", "i1 i0 i0 o1", ""},
		{"-+++", "o0 i0 i0 o2", "0>"},
		{"+--+", "o1 i1 i1 i0", "3<"},
		{"+--+", "o2 o0 i2 i0", "1>"},
		{"++--", "i0 o1 o0 i1", "0<2>"},
		{"-++-", "i1 o2 o1 i2", ""},
		{"-++-", "i2 i0 o2 o0", "1<3>"},
		{"----", "i2 i1 o0 o0", ""},
		{"----", "i2 i2 o0 o0", ""},
		{"++++", "i0 i0 o1 o1", ""},
	} {
		after := roll(c.after)
		got, changed, errno := Step(r, strong(c.agree))
		if errno != api.OK || got != after || !slices.Equal(changed, changes(c.changes)) {
			t.Errorf("frame %d: Step(%v, %s): %v, %v, %d; want %v, %s", i, r, c.agree, got, changed, errno, after, c.changes)
		}
		r = after
	}
}

func TestP10_2AllAgree(t *testing.T) {
	for _, c := range []struct{ before, after, changes string }{
		{"i0 i0 i0 i0", "i0 i0 i0 i0", ""},
		{"i1 i2 i1 i2", "i0 i0 i0 i0", ""},
		{"o0 o1 o2 i2", "o1 o2 i0 i0", "2<"},
		{"o2 o2 o2 o2", "i0 i0 i0 i0", "0<1<2<3<"},
		{"o0 o0 o0 o0", "o1 o1 o1 o1", ""},
		{"o1 i2 o1 i1", "o2 i0 o2 i0", ""},
	} {
		checkStep(t, roll(c.before), strong("++++"), roll(c.after), changes(c.changes))
	}
}

func TestP10_2NoneAgrees(t *testing.T) {
	for _, c := range []struct{ before, after, changes string }{
		{"i0 i0 i0 i0", "i1 i1 i1 i1", ""},
		{"i1 i0 i0 i0", "o0 i1 i1 i1", "0>"},
		{"i0 i0 i0 i1", "i1 i1 i1 o0", "3>"},
		{"i2 i0 i0 i2", "o0 i1 i1 o0", "0>3>"},
		{"o0 o1 o2 i0", "o0 o0 o0 i1", ""},
		{"o2 o2 o2 o2", "o0 o0 o0 o0", ""},
	} {
		checkStep(t, roll(c.before), strong("----"), roll(c.after), changes(c.changes))
	}
}

// A node that is to be put out stays, if no more than two are in; its Miss grows no more.
func TestP10_2TwoStay(t *testing.T) {
	for _, c := range []struct{ before, agree, after, changes string }{
		{"i1 i0 i0 i0", "-+++", "o0 i0 i0 i0", "0>"},
		{"i1 i0 i0 o0", "-++-", "o0 i0 i0 o0", "0>"},
		{"i2 i0 i0 o0", "-++-", "o0 i0 i0 o0", "0>"},
		{"i1 i0 o0 o0", "-+--", "i2 i0 o0 o0", ""},
		{"i2 i0 o0 o0", "-+--", "i2 i0 o0 o0", ""},
		{"o0 i0 o0 i1", "-+--", "o0 i0 o0 i2", ""},
		{"o0 i0 o0 i2", "-+--", "o0 i0 o0 i2", ""},
		{"i1 o0 o0 o0", "----", "i2 o0 o0 o0", ""},
		{"i2 o0 o0 o0", "----", "i2 o0 o0 o0", ""},
		{"o0 o0 i0 o0", "----", "o0 o0 i1 o0", ""},
		{"o0 o0 o0 i2", "+++-", "o1 o1 o1 i2", ""},
		// Its Miss is kept until more are in, and puts it out then.
		{"i2 i0 i0 o0", "-+++", "o0 i0 i0 o1", "0>"},
		{"i2 i0 i0 o0", "++++", "i0 i0 i0 o1", ""},
	} {
		checkStep(t, roll(c.before), strong(c.agree), roll(c.after), changes(c.changes))
	}
}

// Those put out ahead of a node count for it no more.
func TestP10_2SeveralOut(t *testing.T) {
	for _, c := range []struct{ before, agree, after, changes string }{
		{"i1 i1 i1 i1", "----", "o0 o0 i2 i2", "0>1>"},
		{"i2 i2 i2 i2", "----", "o0 o0 i2 i2", "0>1>"},
		{"i1 i1 i1 i1", "+---", "i0 o0 o0 i2", "1>2>"},
		{"i1 i1 i1 i1", "-+--", "o0 i0 o0 i2", "0>2>"},
		{"i1 i1 i1 i1", "--+-", "o0 o0 i0 i2", "0>1>"},
		{"i1 i1 i1 i1", "++--", "i0 i0 o0 o0", "2>3>"},
		{"i1 i1 i1 o0", "----", "o0 i2 i2 o0", "0>"},
		{"o0 i1 i1 i1", "+---", "o1 o0 i2 i2", "1>"},
		{"i0 i1 i0 i1", "----", "i1 o0 i1 o0", "1>3>"},
		{"i0 i1 o0 i1", "+-+-", "i0 o0 o1 i2", "1>"},
	} {
		checkStep(t, roll(c.before), strong(c.agree), roll(c.after), changes(c.changes))
	}
}

// One let in ahead of a node counts for it, one let in behind it doesn't.
func TestP10_2LetInAhead(t *testing.T) {
	for _, c := range []struct{ before, agree, after, changes string }{
		{"o2 i1 i0 o0", "+-+-", "i0 o0 i0 o0", "0<1>"},
		{"o2 i2 i0 o0", "+-+-", "i0 o0 i0 o0", "0<1>"},
		{"o1 i1 i0 o0", "+-+-", "o2 i2 i0 o0", ""},
		{"o0 i1 i0 o2", "--++", "o0 i2 i0 i0", "3<"},
		{"i1 i0 o2 o0", "-++-", "i2 i0 i0 o0", "2<"},
		{"i1 o2 i1 o0", "-+--", "i2 i0 o0 o0", "1<2>"},
		{"o2 i1 i1 o2", "+--+", "i0 o0 i2 i0", "0<1>3<"},
		{"o2 o2 i1 i1", "++--", "i0 i0 o0 o0", "0<1<2>3>"},
		{"i1 i1 o2 o2", "--++", "i2 i2 i0 i0", "2<3<"},
		{"o2 o2 o2 i2", "+++-", "i0 i0 i0 o0", "0<1<2<3>"},
		{"o2 o0 o0 i2", "+---", "i0 o0 o0 i2", "0<"},
		{"i1 i1 i0 o2", "--++", "o0 i2 i0 i0", "0>3<"},
		{"i1 o2 i0 i1", "-++-", "o0 i0 i0 o0", "0>1<3>"},
	} {
		checkStep(t, roll(c.before), strong(c.agree), roll(c.after), changes(c.changes))
	}
}

func TestP10_2Join(t *testing.T) {
	for node := range 4 {
		for join, in := range []bool{false, false, true} {
			before, after := Begin(), Begin()
			before.In[node], before.Join[node] = false, join
			want := []api.Change{}
			if in {
				want = append(want, api.Change{Kind: api.ChangeIn, Node: node})
			} else {
				after.In[node], after.Join[node] = false, join+1
			}
			checkStep(t, before, strong("++++"), after, want)
			// One that doesn't agree begins anew, however near it was.
			v := strong("++++")
			v.Agree[node] = false
			out := before
			out.Join[node] = 0
			checkStep(t, before, v, out, nil)
		}
	}
}

// A weak verdict changes nothing, though its Agrees would change much.
func TestP10_2NotStrong(t *testing.T) {
	for _, r := range eachGood() {
		for _, agree := range eachSet() {
			checkStep(t, r, api.Verdict{Value: 7, Agree: agree[:]}, r, nil)
		}
	}
}

func TestP10_2AsTold(t *testing.T) {
	for _, r := range eachGood() {
		for _, agree := range eachSet() {
			after, l := toldStep(r, agree)
			checkStep(t, r, api.Verdict{Strong: true, Agree: agree[:]}, after, l)
			if !Good(after) {
				t.Errorf("behind %v and %v: %v is not good", r, agree, after)
			}
		}
	}
}

// What was voted on has no say.
func TestP10_2AnyValue(t *testing.T) {
	for _, value := range []int{0, 1, -1, top, low, 1 << 32} {
		v := strong("+-++")
		v.Value = value
		checkStep(t, roll("i1 i1 o2 o0"), v, roll("i0 i2 i0 o1"), changes("2<"))
	}
}

// The size is asked first, also of a weak verdict and beside a roll that is not good.
func TestP10_2WrongSize(t *testing.T) {
	notGood := api.Roll{Miss: [4]int{0, 0, 1, 0}}
	for _, n := range []int{0, 1, 2, 3, 5, 6, 8, 256, 260, 1 << 16} {
		for _, agrees := range []bool{true, false} {
			for _, most := range []bool{true, false} {
				v := api.Verdict{Value: 5, Strong: most, Agree: slices.Repeat([]bool{agrees}, n)}
				checkRefused(t, Begin(), v, api.ErrSize)
				checkRefused(t, roll("i1 i2 o2 o1"), v, api.ErrSize)
				checkRefused(t, notGood, v, api.ErrSize)
			}
		}
	}
	checkRefused(t, Begin(), api.Verdict{}, api.ErrSize)
	checkRefused(t, Begin(), api.Verdict{Strong: true}, api.ErrSize)
	checkRefused(t, notGood, api.Verdict{Strong: true}, api.ErrSize)
	// Room for four is not four.
	checkRefused(t, Begin(), api.Verdict{Strong: true, Agree: make([]bool, 3, 4)}, api.ErrSize)
}

func TestP10_2RollNotGood(t *testing.T) {
	for node := range 4 {
		for _, c := range []struct {
			in         bool
			miss, join int
		}{
			{true, -1, 0}, {true, api.MaxMiss + 1, 0}, {true, 0, 1}, {true, 0, -1}, {true, top, 0}, {true, low, 0},
			{false, 0, -1}, {false, 0, api.MaxJoin}, {false, 1, 0}, {false, -1, 0}, {false, 0, top}, {false, 0, low},
		} {
			for _, others := range []string{"i0 i0 i0 i0", "i1 o2 i2 o1", "o0 o0 o0 o0"} {
				r := roll(others)
				r.In[node], r.Miss[node], r.Join[node] = c.in, c.miss, c.join
				for _, agree := range eachSet() {
					checkRefused(t, r, api.Verdict{Value: 5, Strong: true, Agree: agree[:]}, api.ErrRange)
					checkRefused(t, r, api.Verdict{Value: 5, Agree: agree[:]}, api.ErrRange)
				}
			}
		}
	}
}

// Each answer has its own changes, spare room too.
func TestP10_2NewMemory(t *testing.T) {
	r, v := roll("o2 o2 i1 i0"), strong("++-+")
	_, first, _ := Step(r, v)
	_, second, _ := Step(r, v)
	want := changes("0<1<2>")
	room := first[:cap(first)]
	for i := range room {
		room[i] = api.Change{Kind: 9, Node: 9}
	}
	if !slices.Equal(second, want) {
		t.Errorf("a second answer shares the first one's changes: %v; want %v", second, want)
	}
	checkStep(t, r, v, roll("i0 i0 o0 i0"), want)
}

// Agrees that are changed behind a Step have no say in its answer, nor in the next one's.
func TestP10_2NothingKept(t *testing.T) {
	v := strong("-+++")
	after, l, _ := Step(roll("i1 i0 i0 i0"), v)
	v.Agree[0], v.Agree[1] = true, false
	if after != roll("o0 i0 i0 i0") || !slices.Equal(l, changes("0>")) {
		t.Errorf("the answer is another one: %v, %v", after, l)
	}
	checkStep(t, roll("i1 i0 i0 i0"), strong("-+++"), after, l)
}
