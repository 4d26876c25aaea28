package nav

import (
	"iter"
	"slices"

	"ullage/api"
	"ullage/span"
)

// mostWrong is how many measurements may be wrong.
const mostWrong = 2

// Fuse cuts a state by measurements, again and again.
func Fuse(s api.State, l []api.Radio, rounds int) (api.State, int, api.Errno) {
	if e := checkFuse(s, l, rounds); e != api.OK {
		return api.State{}, 0, e
	}
	return fuse(s, l, rounds)
}

// Trust cuts a state by measurements, some of which are wrong.
func Trust(s api.State, l []api.Radio, wrong, rounds int) (api.State, api.Errno) {
	if e := checkFuse(s, l, rounds); e != api.OK {
		return api.State{}, e
	}
	if wrong < 0 || wrong > mostWrong || wrong > len(l) {
		return api.State{}, api.ErrArg
	}
	all, found := api.State{}, false
	for right := range choices(l, wrong) {
		one, _, e := fuse(s, right, rounds)
		if e != api.OK {
			continue
		}
		if found {
			one = hull(all, one)
		}
		all, found = one, true
	}
	if !found {
		return api.State{}, api.ErrNone
	}
	return all, api.OK
}

// Suspects returns the measurements without which the others may be right.
func Suspects(s api.State, l []api.Radio, rounds int) ([]int, api.Errno) {
	if e := checkFuse(s, l, rounds); e != api.OK {
		return nil, e
	}
	if canFuse(s, l, rounds) {
		return nil, api.OK
	}
	var who []int
	i := 0
	for rest := range choices(l, 1) {
		if canFuse(s, rest, rounds) {
			who = append(who, i)
		}
		i++
	}
	return who, api.OK
}

// fuse cuts a valid state by valid measurements. A measurement of which an operation does not fit says nothing, but one that leaves nothing is an error.
func fuse(s api.State, l []api.Radio, rounds int) (api.State, int, api.Errno) {
	for done := range rounds {
		before := s
		for _, m := range l {
			next, e := cut(s, m)
			switch e {
			case api.OK:
				s = next
			case api.ErrNone:
				return api.State{}, 0, e
			}
		}
		if s == before {
			return s, done + 1, api.OK
		}
	}
	return s, rounds, api.OK
}

// canFuse reports whether something is left of a state that is cut by measurements.
func canFuse(s api.State, l []api.Radio, rounds int) bool {
	_, _, e := fuse(s, l, rounds)
	return e == api.OK
}

// choices returns a list without n of its elements, for all choices of these, the first ones first.
func choices(l []api.Radio, n int) iter.Seq[[]api.Radio] {
	return func(yield func([]api.Radio) bool) {
		if n == 0 {
			yield(l)
			return
		}
		for i := range l {
			for rest := range choices(l[i+1:], n-1) {
				if !yield(slices.Concat(l[:i], rest)) {
					return
				}
			}
		}
	}
}

// hull returns a state with all places and velocities of two valid states, and all between them.
func hull(a, b api.State) api.State {
	for i := range a.P {
		a.P[i], _ = span.Hull(a.P[i], b.P[i])
		a.V[i], _ = span.Hull(a.V[i], b.V[i])
	}
	return a
}
