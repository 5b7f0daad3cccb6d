package vec

import (
	"fourwatch/api"
	"fourwatch/fix"
)

// A reckoner remembers whether any of its results stopped at an end, so that a chain of steps needs to ask but once.
type reckoner struct{ bent bool }

// An operation is a method of a reckoner, with the reckoner that it is to work on still open.
type operation func(r *reckoner, a, b int) int

func (r *reckoner) add(a, b int) int { return r.note(fix.Add(a, b)) }

func (r *reckoner) sub(a, b int) int { return r.note(fix.Sub(a, b)) }

func (r *reckoner) mul(a, b int) int { return r.note(fix.Mul(a, b)) }

func (r *reckoner) note(n int, bent bool) int {
	r.bent = r.bent || bent
	return n
}

func (r *reckoner) each(op operation, a, b api.Vec) api.Vec {
	return api.Vec{X: op(r, a.X, b.X), Y: op(r, a.Y, b.Y), Z: op(r, a.Z, b.Z)}
}
