package flight

import "ullage/api"

// boxes is six spans: those of the place, and those of the velocity.
type boxes [2]api.Box

// model evaluates what a planet and an arc do to something.
type model struct {
	formula
	planet api.Planet
	arc    api.Arc
}

// Force returns the force at the box of a state.
func Force(p api.Planet, a api.Arc, s api.State) (api.Box, api.Errno) {
	if e := checkFlight(p, []api.Arc{a}, s); e != api.OK {
		return api.Box{}, e
	}
	m := model{planet: p, arc: a}
	force := m.force(boxes{s.P, s.V}, s.M)
	if m.e != api.OK {
		return api.Box{}, m.e
	}
	return force, api.OK
}

// force returns the force at a box. What is the point 0 is left out, since it may not be evaluated: there need not be a distance other than 0.
func (m *model) force(at boxes, mass api.Span) api.Box {
	place, v := at[0], at[1]
	sum := m.planet.Pull
	attracts, brakes := m.planet.Mu != point(0), len(m.arc.Drag) > 0
	var r api.Span
	if attracts || brakes {
		r = m.norm(place)
	}
	if attracts {
		sum = m.attraction(sum, place, r)
	}
	if m.planet.Spin != point(0) {
		sum = m.turning(sum, place, v)
	}
	if m.arc.Thrust != point(0) {
		sum = m.thrust(sum, mass)
	}
	if brakes {
		sum = m.drag(sum, r, v, mass)
	}
	return sum
}

// attraction adds the attraction of the planet to a force.
func (m *model) attraction(sum, place api.Box, r api.Span) api.Box {
	sub, mul, div := m.sub, m.mul, m.div
	var u api.Box
	for i := range u {
		u[i] = div(place[i], r)
	}
	s := div(div(m.planet.Mu, r), r)
	n := m.flattening(r, u[2])
	for i := range sum {
		sum[i] = sub(sum[i], mul(mul(s, u[i]), n[i]))
	}
	return sum
}

// flattening returns by what an oblate planet attracts more than a round one.
func (m *model) flattening(r, upward api.Span) api.Box {
	one, three := point(api.One), point(3*api.One)
	if m.planet.Oblate == point(0) {
		return api.Box{one, one, one}
	}
	add, sub, mul := m.add, m.sub, m.mul
	c := mul(m.planet.Oblate, m.square(m.div(m.planet.Radius, r)))
	q := m.scale(m.square(upward), 5)
	level := add(one, mul(c, sub(one, q)))
	return api.Box{level, level, add(one, mul(c, sub(three, q)))}
}

// turning adds what is felt in a frame that turns to a force.
func (m *model) turning(sum, place, v api.Box) api.Box {
	add, sub, mul := m.add, m.sub, m.mul
	w := m.planet.Spin
	e := m.square(w)
	sum[0] = add(add(sum[0], m.scale(mul(w, v[1]), 2)), mul(e, place[0]))
	sum[1] = add(sub(sum[1], m.scale(mul(w, v[0]), 2)), mul(e, place[1]))
	return sum
}

// thrust adds the thrust of the arc to a force.
func (m *model) thrust(sum api.Box, mass api.Span) api.Box {
	t := m.div(m.arc.Thrust, mass)
	for i, d := range m.arc.Dir {
		sum[i] = m.add(sum[i], m.mul(t, d))
	}
	return sum
}

// drag adds the drag of the air to a force.
func (m *model) drag(sum api.Box, r api.Span, v api.Box, mass api.Span) api.Box {
	sub, mul := m.sub, m.mul
	b := m.div(m.look(m.arc.Drag, sub(r, m.planet.Radius)), mass)
	a := m.norm(v)
	for i := range sum {
		sum[i] = sub(sum[i], mul(mul(b, a), v[i]))
	}
	return sum
}
