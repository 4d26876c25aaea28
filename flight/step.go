package flight

import (
	"ullage/api"
	"ullage/span"
)

// leastGrowth is by how much a span of a box is grown that has no width.
const leastGrowth api.Num = 65536

// Step does a step of a state.
func Step(p api.Planet, a api.Arc, s api.State, h api.Num) (next api.State, tube api.Tube, e api.Errno) {
	if e := checkFlight(p, []api.Arc{a}, s); e != api.OK {
		return api.State{}, api.Tube{}, e
	}
	if !isNumber(h) || h == 0 {
		return api.State{}, api.Tube{}, api.ErrArg
	}
	m := model{planet: p, arc: a}
	next, tube = m.step(s, h)
	if m.e != api.OK {
		return api.State{}, api.Tube{}, m.e
	}
	return next, tube, api.OK
}

// step does a step of a valid state. If there is an error, the results mean nothing.
func (m *model) step(s api.State, h api.Num) (next api.State, tube api.Tube) {
	end := m.add(point(s.T), point(h)).Lo
	times := api.Span{Lo: min(0, h), Hi: max(0, h)}
	mass := m.above0(m.sub(s.M, m.mul(m.arc.Flow, times)))
	during := m.enclosure(boxes{s.P, s.V}, times, mass)
	if m.e != api.OK {
		return api.State{}, api.Tube{}
	}
	next = m.behind(s, during, mass, point(h))
	next.T = end
	return next, api.Tube{From: min(s.T, end), To: max(s.T, end), P: during[0], V: during[1], M: mass}
}

// enclosure returns boxes that nothing can leave during a step: what is there is led into them again.
func (m *model) enclosure(from boxes, times, mass api.Span) (tube boxes) {
	tried, found := from, false
tries:
	for range api.MaxTries {
		tube = m.led(from, tried, times, mass)
		wider := m.wider(tried, tube)
		switch {
		case m.e != api.OK:
			return boxes{}
		case wider == tried:
			found = true
			break tries
		}
		tried = wider
	}
	if !found {
		m.keep(api.Span{}, api.ErrState)
	}
	return tube
}

// led returns where something may be during a step, as long as it is in the boxes that are tried.
func (m *model) led(from, tried boxes, times, mass api.Span) (to boxes) {
	add, mul := m.add, m.mul
	force := m.force(tried, mass)
	for i := range force {
		to[0][i] = add(from[0][i], mul(times, tried[1][i]))
		to[1][i] = add(from[1][i], mul(times, force[i]))
	}
	return to
}

// wider returns boxes with each span that does not contain another one's made to contain it, with room on both sides.
func (m *model) wider(tried, to boxes) boxes {
	for k := range tried {
		for i, a := range tried[k] {
			if !span.Within(to[k][i], a) {
				tried[k][i] = m.grown(m.keep(span.Hull(a, to[k][i])))
			}
		}
	}
	return tried
}

// grown returns a span grown by an eighth of its width and a bit more.
func (m *model) grown(a api.Span) api.Span {
	width, e := span.Wide(a)
	m.keep(a, e)
	return m.keep(span.Grow(a, width/8+leastGrowth))
}

// behind returns the state behind a step of the length h, during which something is in boxes, with a mass.
func (m *model) behind(s api.State, during boxes, mass, h api.Span) api.State {
	add, mul := m.add, m.mul
	force := m.force(during, mass)
	k := m.div(mul(h, h), point(2*api.One))
	for i, a := range force {
		s.P[i] = add(add(s.P[i], mul(h, s.V[i])), mul(k, a))
		s.V[i] = add(s.V[i], mul(h, a))
	}
	s.M = m.sub(s.M, mul(h, m.arc.Flow))
	return s
}
