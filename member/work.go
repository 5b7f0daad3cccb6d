package member

import "fourwatch/api"

const (
	fewest    = 2 // so few stay in, whatever they say
	unchanged = 0 // none of the kinds of changes
)

// goOn has each node's say noted in the roll, rising, and is what changed.
// Each node meets the roll as those ahead of it left it, since they count for it as they are by now.
func goOn(r *api.Roll, agree []bool) []api.Change {
	var changes []api.Change
	for node, agrees := range agree {
		if kind := note(r, node, agrees); kind != unchanged {
			changes = append(changes, api.Change{Kind: kind, Node: node})
		}
	}
	return changes
}

// note brings one node's say into the roll, and is the kind of change that came of it.
func note(r *api.Roll, node int, agrees bool) int {
	switch {
	case r.In[node] && agrees:
		r.Miss[node] = 0
	case r.In[node]:
		return dissent(r, node)
	case agrees:
		return assent(r, node)
	default:
		r.Join[node] = 0
	}
	return unchanged
}

// dissent is of a node that is in.
func dissent(r *api.Roll, node int) int {
	r.Miss[node]++
	if r.Miss[node] < api.MaxMiss {
		return unchanged
	}
	if Count(*r) > fewest {
		move(r, node, false)
		return api.ChangeOut
	}
	r.Miss[node] = api.MaxMiss
	return unchanged
}

// assent is of a node that is out.
func assent(r *api.Roll, node int) int {
	r.Join[node]++
	if r.Join[node] < api.MaxJoin {
		return unchanged
	}
	move(r, node, true)
	return api.ChangeIn
}

// move lets a node in or puts it out; what was counted of it was counted for that alone.
func move(r *api.Roll, node int, in bool) {
	r.In[node], r.Miss[node], r.Join[node] = in, 0, 0
}
