package agree

import "fourwatch/api"

// teller hands out what the nodes tell, one thing after another: the bad one's lies come in the order in which they are asked for.
type teller struct {
	bad  int
	lies []int
}

// lie is the next one of the lies, 0 when they are over.
func (t *teller) lie() int {
	if len(t.lies) == 0 {
		return 0
	}
	next := t.lies[0]
	t.lies = t.lies[1:]
	return next
}

// next is what a node tells where a good one tells the truth.
func (t *teller) next(node, truth int) int {
	if node == t.bad {
		return t.lie()
	}
	return truth
}

// first is what each node hears from s itself.
func (t *teller) first(s, value int) [api.Nodes]int {
	heard := [api.Nodes]int{}
	for r := range heard {
		if r != s {
			heard[r] = t.next(s, value)
		}
	}
	return heard
}

// on is what each node but s hears from the two others of what they heard from s.
func (t *teller) on(s int, heard [api.Nodes]int) [api.Nodes][]int {
	hearsay := [api.Nodes][]int{}
	for r := range heard {
		for q := range heard {
			if r != s && q != s && q != r {
				hearsay[q] = append(hearsay[q], t.next(r, heard[r]))
			}
		}
	}
	return hearsay
}
