package nav

import (
	"ullage/api"
	"ullage/flight"
	"ullage/span"
)

// Predict moves a state by what was felt.
func Predict(p api.Planet, s api.State, acc api.Box, h api.Num) (api.State, api.Errno) {
	if flight.CheckPlanet(p) != api.OK || flight.CheckState(s) != api.OK || !areValid(acc[:]...) || !isLength(h) {
		return api.State{}, api.ErrArg
	}
	for i, a := range acc {
		pull, e := span.Add(p.Pull[i], a)
		if e != api.OK {
			return api.State{}, e
		}
		p.Pull[i] = pull
	}
	next, _, e := flight.Step(p, api.Arc{Time: api.One, Step: api.One}, s, h)
	return next, e
}

// Follow goes on from update to update.
func Follow(p api.Planet, s api.State, l []api.Update, rounds int) ([]api.State, int, api.Errno) {
	if flight.CheckPlanet(p) != api.OK || flight.CheckState(s) != api.OK || !areRounds(rounds) {
		return nil, 0, api.ErrArg
	}
	if len(l) > api.MaxUpdates {
		return nil, 0, api.ErrLong
	}
	var states []api.State
	for i, u := range l {
		next, e := update(p, s, u, rounds)
		if e != api.OK {
			return states, i, e
		}
		s = next
		states = append(states, s)
	}
	return states, len(l), api.OK
}

// update moves a state by what was felt, and cuts it by what was heard then.
func update(p api.Planet, s api.State, u api.Update, rounds int) (api.State, api.Errno) {
	next, e := Predict(p, s, u.Acc, u.H)
	if e != api.OK {
		return api.State{}, e
	}
	next, _, e = Fuse(next, u.Heard, rounds)
	return next, e
}

// isLength reports whether a step may be of the length h.
func isLength(h api.Num) bool {
	_, e := span.Point(h)
	return e == api.OK && h != 0
}
