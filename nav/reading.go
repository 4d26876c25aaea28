package nav

import (
	"ullage/api"
	"ullage/span"
)

// What an instrument measures.
const (
	kindDistance = iota
	kindDeparture
	kindPlaceAlong
	kindSpeedAlong
)

// kind is what an instrument measures. An error of an operation stops the reading.
type kind interface {
	reading(s api.State) api.Span
}

// distance is the distance from a place.
type distance struct{ from api.Box }

// departure is the speed away from a place.
type departure struct{ from api.Box }

// placeAlong is the scalar product of a direction and the place.
type placeAlong struct{ dir api.Box }

// speedAlong is the scalar product of a direction and the velocity.
type speedAlong struct{ dir api.Box }

// Reading returns the reading of a measurement at a state.
func Reading(s api.State, m api.Radio) (api.Span, api.Errno) {
	if e := checkHeard(s, m); e != api.OK {
		return api.Span{}, e
	}
	return reading(s, m)
}

// Agrees returns whether a reading surely is in a measurement's value, or surely is not.
func Agrees(s api.State, m api.Radio) int {
	a, e := Reading(s, m)
	switch {
	case e != api.OK:
		return 0
	case span.Within(a, m.Value):
		return 1
	case span.Order(a, m.Value) != 0:
		return -1
	}
	return 0
}

// kindOf returns what a measurement is of, or nil if there is no such kind.
func kindOf(m api.Radio) kind {
	switch m.Kind {
	case kindDistance:
		return distance{m.From}
	case kindDeparture:
		return departure{m.From}
	case kindPlaceAlong:
		return placeAlong{m.Dir}
	case kindSpeedAlong:
		return speedAlong{m.Dir}
	}
	return nil
}

// reading returns the reading of a valid measurement at a valid state.
func reading(s api.State, m api.Radio) (a api.Span, e api.Errno) {
	e = upToError(func() {
		a = kindOf(m).reading(s)
	})
	return a, e
}

func (k distance) reading(s api.State) api.Span {
	return norm(offset(s.P, k.from))
}

func (k departure) reading(s api.State) api.Span {
	d := offset(s.P, k.from)
	return must(span.Div(dot(d, s.V), norm(d)))
}

func (k placeAlong) reading(s api.State) api.Span {
	return dot(k.dir, s.P)
}

func (k speedAlong) reading(s api.State) api.Span {
	return dot(k.dir, s.V)
}
