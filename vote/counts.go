package vote

import "fourwatch/api"

// counted is how many of those that are in have each vote, and how many are in.
func counted(l [api.Nodes]int, in [api.Nodes]bool) (map[int]int, int) {
	counts, voters := map[int]int{}, 0
	for node, vote := range l {
		if in[node] {
			counts[vote]++
			voters++
		}
	}
	return counts, voters
}

// leading is the vote that most of those that are in have, 0 if none is in.
// The nodes are gone through, not the map, since a map has no order: the lowest of several goes ahead.
// One that is out is passed over, since it could have the same vote as a later one and bring it ahead.
func leading(l [api.Nodes]int, in [api.Nodes]bool, counts map[int]int) int {
	value, most := 0, 0
	for node, vote := range l {
		if in[node] && counts[vote] > most {
			value, most = vote, counts[vote]
		}
	}
	return value
}
