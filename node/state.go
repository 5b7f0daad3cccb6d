package node

import (
	"fourwatch/api"
	"fourwatch/member"
	"fourwatch/sum"
)

const (
	axisSize  = 7                    // numbers of an axis
	rollAt    = api.Axes * axisSize  // the roll's numbers stand behind those of the axes
	stateSize = rollAt + 3           // numbers of a state
	countBase = 8                    // each count of a roll stands behind so many times what is ahead
	lastSet   = 1<<api.Nodes - 1     // the number of a roll with all in
	lastCount = 1<<(3*api.Nodes) - 1 // the greatest number of counts below countBase
)

// numbers is a state in numbers.
func numbers(axes [api.Axes]api.State, roll api.Roll) []int {
	var l []int
	for _, s := range axes {
		l = append(l, s.X, s.V, s.P00, s.P01, s.P11, bit(s.Bent), s.Missed)
	}
	return append(l, setNumber(roll.In[:]...), countNumber(roll.Miss[:]...), countNumber(roll.Join[:]...))
}

// digest is the sum of a state's numbers, each in eight bytes, the highest first.
func digest(state ...int) int {
	var b []byte
	for _, n := range state {
		for shift := 56; shift >= 0; shift -= 8 {
			b = append(b, byte(uint64(n)>>shift))
		}
	}
	return sum.Sum(b)
}

// stateOf is the axes and the roll that a list tells; false: it tells none.
func stateOf(l []int) ([api.Axes]api.State, api.Roll, bool) {
	if len(l) != stateSize {
		return [api.Axes]api.State{}, api.Roll{}, false
	}
	axes, rightAxes := axesOf(l)
	roll, rightRoll := rollOf(l[rollAt], l[rollAt+1], l[rollAt+2])
	return axes, roll, rightAxes && rightRoll
}

// axesOf is the axes that the first numbers of a list tell.
func axesOf(l []int) ([api.Axes]api.State, bool) {
	var axes [api.Axes]api.State
	for axis := range axes {
		s, right := axisOf(l[axis*axisSize:])
		if !right {
			return [api.Axes]api.State{}, false
		}
		axes[axis] = s
	}
	return axes, true
}

// axisOf is the axis that the first numbers of a list tell.
func axisOf(l []int) (api.State, bool) {
	if !within(l[5], 1) {
		return api.State{}, false
	}
	return api.State{X: l[0], V: l[1], P00: l[2], P01: l[3], P11: l[4], Bent: l[5] == 1, Missed: l[6]}, true
}

// rollOf is the good roll that three numbers tell.
func rollOf(set, miss, join int) (api.Roll, bool) {
	if !within(set, lastSet) || !within(miss, lastCount) || !within(join, lastCount) {
		return api.Roll{}, false
	}
	roll := api.Roll{Miss: countsOf(miss), Join: countsOf(join)}
	for node := range roll.In {
		roll.In[node] = set>>node&1 == 1
	}
	return roll, member.Good(roll)
}

// setNumber has the bit 2^i set for each node i that is in.
func setNumber(in ...bool) int {
	n := 0
	for node, is := range in {
		n += bit(is) << node
	}
	return n
}

// countNumber has node 0's count highest; counts that are too great run into one another, and wrap round.
func countNumber(counts ...int) int {
	n := 0
	for _, count := range counts {
		n = n*countBase + count
	}
	return n
}

// countsOf is the counts of which a number from 0 to lastCount is made.
func countsOf(n int) [api.Nodes]int {
	var counts [api.Nodes]int
	for node := api.Nodes - 1; node >= 0; node-- {
		counts[node] = n % countBase
		n /= countBase
	}
	return counts
}

// bit is 1 for true, 0 for false.
func bit(is bool) int {
	if is {
		return 1
	}
	return 0
}

// within is whether a number is from 0 to a last one.
func within(n, last int) bool { return n >= 0 && n <= last }
