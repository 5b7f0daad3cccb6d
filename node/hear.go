package node

import (
	"slices"

	"fourwatch/agree"
	"fourwatch/api"
	"fourwatch/clock"
)

// heard is what each node told, without elements where nothing is heard of it.
// Its lists are those of the messages: they are read while a call lasts, and no answer keeps one.
type heard [api.Nodes][]int

// hear takes of each other node the first message that is of this frame and of the kind and the size wanted.
func hear(n api.Node, in []api.Message, kind, size int) heard {
	var h heard
	for _, m := range in {
		fits := m.Kind == kind && m.Frame == n.Frame && len(m.Vals) == size
		if fits && isNode(m.From) && m.From != n.Id && len(h[m.From]) == 0 {
			h[m.From] = m.Vals
		}
	}
	return h
}

// at is the number that a node told at a place, 0 if nothing is heard of it.
func (h heard) at(node, place int) int {
	if len(h[node]) == 0 {
		return 0
	}
	return h[node][place]
}

// taken is what the computer id takes for said by a node: what it has from the node itself, held against what the two others tell at a place of what they heard.
func (h heard) taken(id, node, direct, place int) int {
	if node == id {
		return direct
	}
	var told []int
	for other := range h {
		if other != id && other != node {
			told = append(told, h.at(other, place))
		}
	}
	return agree.Decide(direct, told[0], told[1])
}

// alike is what the first two nodes that tell the same tell; nothing if no two do.
func (h heard) alike() []int {
	for i, told := range h {
		for _, other := range h[i+1:] {
			if len(told) > 0 && slices.Equal(told, other) {
				return told
			}
		}
	}
	return nil
}

// agreed is what a computer takes for read by each node.
func agreed(n api.Node, h heard) [api.Nodes][api.Axes]int {
	all := n.Direct
	for node, read := range n.Direct {
		for axis, direct := range read {
			all[node][axis] = h.taken(n.Id, node, direct, node*api.Axes+axis)
		}
	}
	return all
}

// votes is what a computer takes for each node's vote.
func votes(n api.Node, h heard) [api.Nodes]int {
	all := n.Heard
	for node, direct := range n.Heard {
		all[node] = h.taken(n.Id, node, direct, node)
	}
	return all
}

// used is the middle of what the nodes that are in read on an axis.
func used(all [api.Nodes][api.Axes]int, in [api.Nodes]bool, axis int) int {
	var l []int
	for node, read := range all {
		if in[node] {
			l = append(l, read[axis])
		}
	}
	// Only an empty list is refused here, and what stands beside that error is the 0 that is asked for then.
	middle, _ := clock.Middle(l)
	return middle
}

// flat is all readings, one behind the other.
func flat(rows ...[api.Axes]int) []int {
	var l []int
	for _, row := range rows {
		l = append(l, row[:]...)
	}
	return l
}
