package member

import (
	"math"

	"fourwatch/api"
)

const (
	top = math.MaxInt
	low = math.MinInt
)

// roll is written two characters a node: i and its Miss of one that is in, o and its Join of one that is out.
func roll(text string) api.Roll {
	r := api.Roll{}
	for node := range 4 {
		count := int(text[3*node+1] - '0')
		if text[3*node] == 'i' {
			r.In[node], r.Miss[node] = true, count
		} else {
			r.Join[node] = count
		}
	}
	return r
}

// strong is a verdict written a character a node: + for one that agrees.
func strong(text string) api.Verdict {
	v := api.Verdict{Strong: true}
	for _, c := range text {
		v.Agree = append(v.Agree, c == '+')
	}
	return v
}

// changes are written as a node and < for one let in, > for one put out.
func changes(text string) []api.Change {
	l := []api.Change{}
	for i := 0; i < len(text); i += 2 {
		kind := api.ChangeOut
		if text[i+1] == '<' {
			kind = api.ChangeIn
		}
		l = append(l, api.Change{Kind: kind, Node: int(text[i] - '0')})
	}
	return l
}

// eachSet is every set of four nodes.
func eachSet() [][4]bool {
	all := [][4]bool{}
	for n := range 16 {
		all = append(all, [4]bool{n&1 != 0, n&2 != 0, n&4 != 0, n&8 != 0})
	}
	return all
}

// eachGood is every roll that is good: three counts of one that is in, three of one that is out.
func eachGood() []api.Roll {
	all := []api.Roll{}
	for n := range 6 * 6 * 6 * 6 {
		r := api.Roll{}
		for node := range 4 {
			if n%6 < 3 {
				r.In[node], r.Miss[node] = true, n%6
			} else {
				r.Join[node] = n%6 - 3
			}
			n /= 6
		}
		all = append(all, r)
	}
	return all
}

// toldNode is one node of a roll, as a row of its own.
type toldNode struct {
	in         bool
	miss, join int
}

// toldStep is P10.2 of a strong verdict and a good roll, as it is told: how many are in is counted along.
func toldStep(r api.Roll, agree [4]bool) (api.Roll, []api.Change) {
	left := 0
	for node := range 4 {
		if r.In[node] {
			left++
		}
	}
	after, l := api.Roll{}, []api.Change{}
	for node := range 4 {
		was := toldNode{r.In[node], r.Miss[node], r.Join[node]}
		is := toldOne(was, agree[node], left)
		if was.in && !is.in {
			l, left = append(l, api.Change{Kind: 1, Node: node}), left-1
		}
		if is.in && !was.in {
			l, left = append(l, api.Change{Kind: 2, Node: node}), left+1
		}
		after.In[node], after.Miss[node], after.Join[node] = is.in, is.miss, is.join
	}
	return after, l
}

// toldOne is one node behind a vote, so many being in.
func toldOne(n toldNode, agrees bool, left int) toldNode {
	if n.in && !agrees && n.miss >= 1 && left >= 3 {
		return toldNode{}
	}
	if n.in && !agrees {
		return toldNode{true, min(n.miss+1, 2), 0}
	}
	if n.in || agrees && n.join == 2 {
		return toldNode{true, 0, 0}
	}
	if agrees {
		return toldNode{false, 0, n.join + 1}
	}
	return toldNode{}
}
