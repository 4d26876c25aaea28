package ascent

import (
	"ullage/api"
	"ullage/flight"
	"ullage/span"
)

// Judge returns whether a cell surely fails, or surely reaches.
func Judge(t api.Ascent, c []api.Knob) (int, api.Errno) {
	if CheckTask(t) != api.OK || !isCell(t, c) {
		return 0, api.ErrArg
	}
	return judge(t, c), api.OK
}

// judge returns -1 if a cell surely fails, 1 if it surely reaches, 0 if neither.
func judge(t api.Ascent, c cell) int {
	l, e := arcs(t, c)
	if e != api.OK {
		return 0
	}
	stops, tubes, e := flight.Fly(t.Planet, l, t.Start)
	if e != api.OK {
		return 0
	}
	var v verdict
	v.judgeEnd(t, stops[len(stops)-1])
	each := limits(t)
	for _, a := range l {
		n, _ := flight.Steps(a)
		v.judgeTubes(each, a, tubes[:n])
		tubes = tubes[n:]
	}
	return v.result()
}

// limit is something of a tube of an arc, and the numbers that are allowed for it.
type limit struct {
	value   func(a api.Arc, t api.Tube) (api.Span, api.Errno)
	allowed api.Span
}

// limits returns what is judged of each tube.
func limits(t api.Ascent) []limit {
	l := []limit{{
		value: func(a api.Arc, tube api.Tube) (api.Span, api.Errno) {
			return span.Div(a.Thrust, tube.M)
		},
		allowed: upTo(t.Axial),
	}}
	if len(t.Density) > 0 {
		l = append(l, limit{
			value: func(_ api.Arc, tube api.Tube) (api.Span, api.Errno) {
				return flight.Pressure(t.Planet, t.Density, tube)
			},
			allowed: upTo(t.Bending),
		})
	}
	return l
}

// verdict is what has been found of a cell: that it surely fails, or that it does not surely reach.
type verdict struct{ fails, doubt bool }

// judge takes a value, or its error, into a verdict, with the numbers that are allowed for it. A value with an error leaves open whether the cell fails.
func (v *verdict) judge(allowed, a api.Span, e api.Errno) {
	if e != api.OK {
		v.doubt = true
		return
	}
	v.fails = v.fails || span.Order(a, allowed) != 0
	v.doubt = v.doubt || !span.Within(a, allowed)
}

// judgeEnd takes the end of a flight into a verdict.
func (v *verdict) judgeEnd(t api.Ascent, end api.State) {
	height, e := flight.Height(t.Planet, end.P)
	v.judge(t.Height, height, e)
	speed, e := flight.Speed(end.V)
	v.judge(t.Speed, speed, e)
	climb, e := flight.Climb(end.P, end.V)
	v.judge(t.Climb, climb, e)
}

// judgeTubes takes the tubes of an arc into a verdict.
func (v *verdict) judgeTubes(each []limit, a api.Arc, tubes []api.Tube) {
	for _, tube := range tubes {
		for _, l := range each {
			value, e := l.value(a, tube)
			v.judge(l.allowed, value, e)
		}
	}
}

// result returns -1 for what surely fails, 1 for what surely reaches, 0 for neither.
func (v *verdict) result() int {
	switch {
	case v.fails:
		return -1
	case v.doubt:
		return 0
	}
	return 1
}
