package flight_test

// P3.7 and P0.2: trajectories of the model, which are to be in what is computed.

import (
	"math"
	"math/rand/v2"
	"testing"

	"ullage/api"
	"ullage/flight"
)

// vector is a place, a velocity or a force.
type vector [3]float64

func (a vector) plus(k float64, b vector) vector {
	return vector{a[0] + k*b[0], a[1] + k*b[1], a[2] + k*b[2]}
}

func (a vector) length() float64 {
	return math.Sqrt(a[0]*a[0] + a[1]*a[1] + a[2]*a[2])
}

// body is where something is at a time, how fast, and its mass.
type body struct {
	time float64
	p, v vector
	mass float64
}

// choice is what a trajectory chooses from the spans of a planet and of an arc; air is 0 on the lower line of a table, and 1 on the upper one.
type choice struct {
	mu, radius, oblate, spin, thrust, flow, air float64
	pull, dir                                   vector
}

// float returns a number as a float.
func float(n api.Num) float64 {
	return float64(n) / (1 << 32)
}

// pick returns a number of a span, often an end.
func pick(r *rand.Rand, a api.Span) float64 {
	switch r.IntN(3) {
	case 0:
		return float(a.Lo)
	case 1:
		return float(a.Hi)
	}
	return float(a.Lo) + r.Float64()*float(a.Hi-a.Lo)
}

func pickBox(r *rand.Rand, b api.Box) vector {
	return vector{pick(r, b[0]), pick(r, b[1]), pick(r, b[2])}
}

func choose(r *rand.Rand, p api.Planet, a api.Arc) choice {
	return choice{
		mu: pick(r, p.Mu), radius: pick(r, p.Radius), oblate: pick(r, p.Oblate), spin: pick(r, p.Spin), pull: pickBox(r, p.Pull),
		thrust: pick(r, a.Thrust), flow: pick(r, a.Flow), dir: pickBox(r, a.Dir), air: pick(r, ints(0, 1)),
	}
}

// airAt returns what is chosen between the lines of a table at a place.
func airAt(l []api.Point, x, air float64) float64 {
	value := func(p api.Point) float64 {
		return float(p.Value.Lo) + air*float(p.Value.Hi-p.Value.Lo)
	}
	if x <= float(l[0].At) {
		return value(l[0])
	}
	for k := 1; k < len(l); k++ {
		from, to := float(l[k-1].At), float(l[k].At)
		if x <= to {
			part := (x - from) / (to - from)
			return (1-part)*value(l[k-1]) + part*value(l[k])
		}
	}
	return value(l[len(l)-1])
}

// acceleration is v' of the model.
func (c choice) acceleration(drag []api.Point, b body) vector {
	sum := c.pull
	r := b.p.length()
	if c.mu != 0 {
		u := vector{}.plus(1/r, b.p)
		k := c.oblate * (c.radius / r) * (c.radius / r)
		level, upward := 1+k*(1-5*u[2]*u[2]), 1+k*(3-5*u[2]*u[2])
		sum = sum.plus(-c.mu/(r*r), vector{u[0] * level, u[1] * level, u[2] * upward})
	}
	sum = sum.plus(1, vector{2*c.spin*b.v[1] + c.spin*c.spin*b.p[0], -2*c.spin*b.v[0] + c.spin*c.spin*b.p[1], 0})
	sum = sum.plus(c.thrust/b.mass, c.dir)
	if len(drag) > 0 {
		sum = sum.plus(-airAt(drag, r-c.radius, c.air)/b.mass*b.v.length(), b.v)
	}
	return sum
}

// moved moves a body for a short time, by the method of Runge and Kutta.
func (c choice) moved(drag []api.Point, b body, h float64) body {
	to := func(h float64, v, a vector) body {
		return body{b.time + h, b.p.plus(h, v), b.v.plus(h, a), b.mass - h*c.flow}
	}
	a1 := c.acceleration(drag, b)
	b2 := to(h/2, b.v, a1)
	a2 := c.acceleration(drag, b2)
	b3 := to(h/2, b2.v, a2)
	a3 := c.acceleration(drag, b3)
	b4 := to(h, b3.v, a3)
	a4 := c.acceleration(drag, b4)
	v := b.v.plus(2, b2.v).plus(2, b3.v).plus(1, b4.v)
	a := a1.plus(2, a2).plus(2, a3).plus(1, a4)
	return to(h, vector{}.plus(1.0/6, v), vector{}.plus(1.0/6, a))
}

// substeps is into how many pieces a step is divided for a trajectory.
const substeps = 32

// path returns where a trajectory along arcs is, step by step, at both ends of each and between, with the choices anew from piece to piece or the same for a step; and where it is at the end, without what has been dropped.
func path(r *rand.Rand, p api.Planet, l []api.Arc, b body) (steps [][]body, end body) {
	fixed := r.IntN(2) == 0
	for _, a := range l {
		for left := a.Time; left > 0; left -= min(left, a.Step) {
			c := choose(r, p, a)
			step := []body{b}
			for range substeps {
				if !fixed {
					c = choose(r, p, a)
				}
				b = c.moved(a.Drag, b, float(min(left, a.Step))/substeps)
				step = append(step, b)
			}
			steps = append(steps, step)
		}
		b.mass -= pick(r, a.Drop)
	}
	return steps, b
}

// slack is what a trajectory in floats may be wrong by.
const slack = 1e-7

func isIn(x float64, a api.Span) bool {
	return float(a.Lo)-slack <= x && x <= float(a.Hi)+slack
}

// isAt reports whether a body is in boxes, with a mass.
func (b body) isAt(place, v api.Box, mass api.Span) bool {
	for i := range 3 {
		if !isIn(b.p[i], place[i]) || !isIn(b.v[i], v[i]) {
			return false
		}
	}
	return isIn(b.mass, mass)
}

func (b body) isInState(s api.State) bool {
	return math.Abs(b.time-float(s.T)) < slack && b.isAt(s.P, s.V, s.M)
}

func (b body) isInTube(t api.Tube) bool {
	return isIn(b.time, raw(t.From, t.To)) && b.isAt(t.P, t.V, t.M)
}

// start returns a body in a state.
func start(r *rand.Rand, s api.State) body {
	return body{float(s.T), pickBox(r, s.P), pickBox(r, s.V), pick(r, s.M)}
}

// end returns a state that has a body, at a time.
func (b body) end(time api.Num) api.State {
	span := func(x float64) api.Span {
		n := api.Num(x * (1 << 32))
		return near(n, 1<<8)
	}
	s := api.State{T: time, M: span(b.mass)}
	for i := range 3 {
		s.P[i], s.V[i] = span(b.p[i]), span(b.v[i])
	}
	return s
}

// route returns arcs that can be flown for a while, of a scene.
func route(r *rand.Rand, toys bool) (c scene, l []api.Arc) {
	c = randomLaunch(r)
	if toys {
		c = randomToy(r)
	}
	for range 1 + r.IntN(3) {
		a := randomLaunch(r).a
		if toys {
			a = randomToy(r).a
			a.Step = min(a.Step, api.One/8)
		}
		a.Drop = around(r, api.One/8, api.One/16)
		l = append(l, a)
	}
	return c, l
}

// TestTrajectories checks that trajectories are in the tubes and at the stops of a flight, and at those of the way back from where they come to be.
func TestTrajectories(t *testing.T) {
	r := random()
	for _, toys := range []bool{true, false} {
		flights, ways := 0, 0
		for range 400 {
			c, l := route(r, toys)
			stops, tubes, e := flight.Fly(c.p, l, c.s)
			if e != api.OK {
				continue
			}
			flights++
			for range 4 {
				steps, end := path(r, c.p, l, start(r, c.s))
				for k, step := range steps {
					for _, b := range step {
						if !b.isInTube(tubes[k]) {
							t.Fatalf("%+v is not in the tube %+v of %+v, %+v", b, tubes[k], c, l)
						}
					}
				}
				last := stops[len(stops)-1]
				if !end.isInState(last) {
					t.Fatalf("%+v is not in the last stop %+v of %+v, %+v", end, last, c, l)
				}
				back, tubes, e := flight.Back(c.p, l, end.end(last.T))
				if e != api.OK {
					continue
				}
				ways++
				for k, step := range steps {
					for _, b := range step {
						if tube := tubes[len(tubes)-1-k]; !b.isInTube(tube) {
							t.Fatalf("%+v is not in the tube %+v of the way back, %+v, %+v", b, tube, c, l)
						}
					}
				}
				if first := back[len(back)-1]; !steps[0][0].isInState(first) {
					t.Fatalf("%+v is not in the last stop %+v of the way back, %+v, %+v", steps[0][0], first, c, l)
				}
			}
		}
		if flights < 100 || ways < 200 {
			t.Errorf("only %d flights and %d ways back have no error", flights, ways)
		}
	}
}

// TestTrajectoriesOfSteps checks that what is in a state is in the tube of a step, onward or back, and then in the new state.
func TestTrajectoriesOfSteps(t *testing.T) {
	r := random()
	found := 0
	for range 4000 {
		c := randomToy(r)
		if r.IntN(3) == 0 {
			c = randomLaunch(r)
		}
		next, tube, e := flight.Step(c.p, c.a, c.s, c.h)
		if e != api.OK {
			continue
		}
		found++
		b := start(r, c.s)
		for range substeps {
			if !b.isInTube(tube) {
				t.Fatalf("%+v is not in the tube %+v of %+v", b, tube, c)
			}
			b = choose(r, c.p, c.a).moved(c.a.Drag, b, float(c.h)/substeps)
		}
		if !b.isInTube(tube) || !b.isInState(next) {
			t.Fatalf("%+v is not in the new state %+v, or not in the tube %+v, of %+v", b, next, tube, c)
		}
	}
	if found < 2000 {
		t.Errorf("only %d steps have no error", found)
	}
}
