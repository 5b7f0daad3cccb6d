package drive

import (
	"strings"

	"fourwatch/api"
	"fourwatch/cluster"
	"fourwatch/fix"
	"fourwatch/wire"
)

const (
	noneBad   = -1
	lastNode  = api.Nodes - 1
	lastPhase = 4
	lastDigit = 9
)

// A player is a script at work: the cluster, what the next frame is made of, and what is told so far.
type player struct {
	four api.Cluster
	next api.Input
	told strings.Builder
}

// begin is a player ahead of the first line.
func begin() *player {
	t := api.Tuning{Dt: api.One, Q: api.One, R: api.One, Gate: 16 * api.One}
	return &player{four: cluster.Begin(t), next: api.Input{Bad: noneBad}}
}

// play is whether a line can be done; if it can't, it changes nothing.
func (p *player) play(line string) bool {
	if line == "" {
		return true
	}
	words := strings.Split(line, blank)
	rest := words[1:]
	switch words[0] {
	case "tune":
		return p.tune(rest)
	case "read":
		return p.read(rest)
	case "bad":
		return p.bad(rest)
	case "good":
		return p.good(rest)
	case "lie":
		return p.lie(rest)
	case "frame":
		return p.frame(rest)
	}
	return false
}

func (p *player) tune(words []string) bool {
	l, right := numbers(words)
	if !right || len(l) != 4 {
		return false
	}
	p.four = cluster.Begin(api.Tuning{Dt: l[0], Q: l[1], R: l[2], Gate: l[3]})
	return true
}

func (p *player) read(words []string) bool {
	if len(words) != 1+api.Axes {
		return false
	}
	node, isNode := digit(words[0], lastNode)
	l, right := numbers(words[1:])
	if !isNode || !right {
		return false
	}
	copy(p.next.Read[node][:], l)
	return true
}

func (p *player) bad(words []string) bool {
	if len(words) != 1 {
		return false
	}
	node, isNode := digit(words[0], lastNode)
	if isNode {
		p.next.Bad = node
	}
	return isNode
}

func (p *player) good(words []string) bool {
	if len(words) != 0 {
		return false
	}
	p.next.Bad, p.next.Lies = noneBad, nil
	return true
}

// lie has the bytes made at once: what is bad later, and a cluster that is new by then, change no lie that is there.
func (p *player) lie(words []string) bool {
	if len(words) < 3 || p.next.Bad == noneBad || len(p.next.Lies) >= api.MaxLies {
		return false
	}
	phase, isPhase := digit(words[0], lastPhase)
	to, isNode := digit(words[1], lastNode)
	kind, isDigit := digit(words[2], lastDigit)
	vals, right := numbers(words[3:])
	if !isPhase || !isNode || !isDigit || !right {
		return false
	}
	b, errno := wire.Encode(api.Message{Kind: kind, From: p.next.Bad, Frame: p.four.Frame, Vals: vals})
	if errno != api.OK {
		return false
	}
	p.next.Lies = append(p.next.Lies, api.Lie{Phase: phase, To: to, Bytes: b})
	return true
}

func (p *player) frame(words []string) bool {
	if len(words) != 0 {
		return false
	}
	after, reports, errno := cluster.Frame(p.four, p.next)
	if errno != api.OK {
		return false
	}
	p.four, p.next.Lies = after, nil
	for _, r := range reports {
		p.report(r)
	}
	return true
}

// digit is the number of a word of one digit, from 0 to a last one.
func digit(word string, last int) (int, bool) {
	if len(word) != 1 {
		return 0, false
	}
	n := int(word[0]) - '0'
	return n, n >= 0 && n <= last
}

// numbers is the fixed-point numbers of words, if each of them is a number's text.
func numbers(words []string) ([]int, bool) {
	var l []int
	for _, word := range words {
		n, errno := fix.Read(word)
		if errno != api.OK {
			return nil, false
		}
		l = append(l, n)
	}
	return l, true
}
