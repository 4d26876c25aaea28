package flight_test

// P3.1 (arguments), and that all functions take no argument that is not valid.

import (
	"testing"

	"ullage/api"
	"ullage/flight"
)

// badNumbers returns what Time and Step of an arc may not be.
var badNumbers = []api.Num{0, -1, -api.One, none, -api.MostNum}

// withBad calls use with each thing that comes of a valid one when one of its spans is changed to one that is not valid.
func withBad(spans []*api.Span, use func()) {
	for _, s := range spans {
		old := *s
		for _, bad := range badSpans() {
			*s = bad
			use()
		}
		*s = old
	}
}

// badPlanets returns planets that are not valid, for one reason each.
func badPlanets() []api.Planet {
	var l []api.Planet
	p := launching().p
	withBad([]*api.Span{&p.Mu, &p.Radius, &p.Oblate, &p.Spin, &p.Pull[0], &p.Pull[1], &p.Pull[2]}, func() { l = append(l, p) })
	for _, bad := range []api.Span{raw(-1, 0), raw(-1, api.One), ints(-2, -1), raw(-api.MostNum, api.MostNum)} {
		q := p
		q.Mu = bad
		l = append(l, q)
		q = p
		q.Radius = bad
		l = append(l, q)
	}
	return l
}

// goodPlanets returns planets that are valid, at the edges.
func goodPlanets() []api.Planet {
	all := raw(-api.MostNum, api.MostNum)
	p := launching().p
	withoutMu, withoutRadius := p, p
	withoutMu.Mu, withoutRadius.Radius = at(0), at(0)
	return []api.Planet{
		{}, p, withoutMu, withoutRadius,
		{Mu: raw(0, api.MostNum), Radius: raw(0, api.MostNum), Oblate: all, Spin: all, Pull: api.Box{all, all, all}},
		{Oblate: ints(-2, -1), Spin: ints(-2, -1), Pull: box(-1, -1, -1)},
	}
}

// badStates returns states that are not valid, for one reason each.
func badStates() []api.State {
	var l []api.State
	s := launching().s
	withBad([]*api.Span{&s.P[0], &s.P[1], &s.P[2], &s.V[0], &s.V[1], &s.V[2], &s.M}, func() { l = append(l, s) })
	for _, bad := range []api.Span{at(0), raw(0, 1), raw(-1, 1), ints(-2, -1), raw(0, api.MostNum)} {
		q := s
		q.M = bad
		l = append(l, q)
	}
	q := s
	q.T = none
	return append(l, q)
}

// goodStates returns states that are valid, at the edges.
func goodStates() []api.State {
	all := raw(-api.MostNum, api.MostNum)
	return []api.State{
		launching().s, {M: at(1)}, {M: at(api.MostNum)}, {M: raw(1, api.MostNum)}, {T: -api.MostNum, M: at(1)}, {T: api.MostNum, M: at(1)},
		{P: api.Box{all, all, all}, V: api.Box{all, all, all}, M: at(1)}, {P: box(-1, -1, -1), V: box(-1, -1, -1), M: at(1)},
	}
}

// points returns a table of so many points.
func points(n int) []api.Point {
	l := []api.Point{}
	for i := range n {
		l = append(l, api.Point{At: api.Num(i) * api.One, Value: ints(1, 2)})
	}
	return l
}

// badTables returns tables that are not valid, but not empty.
func badTables() [][]api.Point {
	l := [][]api.Point{
		points(api.MaxTable + 1),
		{{At: 1}, {At: 1}},
		{{At: 1}, {At: 0}},
		{{At: api.MaxPart + 1}},
		{{At: -api.MaxPart - 1}},
		{{At: none}},
		{{Value: raw(0, api.MaxPart+1)}},
		{{Value: raw(-api.MaxPart-1, 0)}},
	}
	for _, bad := range badSpans() {
		l = append(l, []api.Point{{Value: bad}}, []api.Point{{At: 0}, {At: 1, Value: bad}})
	}
	return l
}

// badArcs returns arcs that are not valid, for one reason each.
func badArcs() []api.Arc {
	var l []api.Arc
	a := launching().a
	withBad([]*api.Span{&a.Thrust, &a.Flow, &a.Drop, &a.Dir[0], &a.Dir[1], &a.Dir[2]}, func() { l = append(l, a) })
	for _, bad := range []api.Span{raw(-1, 0), raw(-1, api.One), ints(-2, -1)} {
		for k := range 3 {
			b := a
			*[]*api.Span{&b.Thrust, &b.Flow, &b.Drop}[k] = bad
			l = append(l, b)
		}
	}
	for _, bad := range []api.Span{raw(0, api.One+1), raw(-api.One-1, 0), at(api.One + 1), at(-api.One - 1), ints(-2, 2), raw(-api.MostNum, api.MostNum)} {
		for i := range a.Dir {
			b := a
			b.Dir[i] = bad
			l = append(l, b)
		}
	}
	for _, bad := range badNumbers {
		b, c := a, a
		b.Time, c.Step = bad, bad
		l = append(l, b, c)
	}
	for _, bad := range badTables() {
		b := a
		b.Drag = bad
		l = append(l, b)
	}
	return l
}

// goodArcs returns arcs that are valid, at the edges, and of one step each.
func goodArcs() []api.Arc {
	one := api.Arc{Time: 1, Step: 1}
	drag, none := one, one
	drag.Drag, none.Drag = points(api.MaxTable), []api.Point{}
	most := raw(0, api.MostNum)
	return []api.Arc{
		one, drag, none, {Time: api.MostNum, Step: api.MostNum}, {Time: 1, Step: api.MostNum},
		{Time: 1, Step: 1, Thrust: most, Flow: most, Drop: most, Dir: api.Box{ints(-1, 1), ints(-1, -1), ints(1, 1)}},
		{Time: 1, Step: 1, Drag: []api.Point{{At: -api.MaxPart, Value: raw(-api.MaxPart, api.MaxPart)}, {At: api.MaxPart, Value: raw(-api.MaxPart, api.MaxPart)}}},
	}
}

// badTubes returns tubes that are not valid, for one reason each.
func badTubes() []api.Tube {
	var l []api.Tube
	for _, s := range badStates() {
		if s.T != none {
			l = append(l, api.Tube{P: s.P, V: s.V, M: s.M})
		}
	}
	for _, c := range [][2]api.Num{{1, 0}, {0, -1}, {none, 0}, {0, none}, {none, none}, {api.MostNum, -api.MostNum}} {
		l = append(l, api.Tube{From: c[0], To: c[1], M: at(1)})
	}
	return l
}

// goodTubes returns tubes that are valid, at the edges.
func goodTubes() []api.Tube {
	return []api.Tube{
		{M: at(1)}, {From: 5, To: 5, M: at(1)}, {From: -api.MostNum, To: api.MostNum, M: at(1)}, {From: -api.MostNum, To: -api.MostNum, M: at(1)},
		{P: box(-1, -1, -1), V: box(-1, -1, -1), M: raw(1, api.MostNum)},
	}
}

// badBoxes returns boxes with one span that is not valid.
func badBoxes() []api.Box {
	var l []api.Box
	b := box(1, 2, 3)
	withBad([]*api.Span{&b[0], &b[1], &b[2]}, func() { l = append(l, b) })
	return l
}

func TestChecks(t *testing.T) {
	for _, p := range goodPlanets() {
		is(t, "CheckPlanet", 0, flight.CheckPlanet(p), 0, api.OK)
	}
	for _, p := range badPlanets() {
		if e := flight.CheckPlanet(p); e != api.ErrArg {
			t.Errorf("CheckPlanet(%v): error %d", p, e)
		}
	}
	for _, s := range goodStates() {
		is(t, "CheckState", 0, flight.CheckState(s), 0, api.OK)
	}
	for _, s := range badStates() {
		if e := flight.CheckState(s); e != api.ErrArg {
			t.Errorf("CheckState(%v): error %d", s, e)
		}
	}
	for _, a := range goodArcs() {
		is(t, "CheckArc", 0, flight.CheckArc(a), 0, api.OK)
	}
	for _, a := range badArcs() {
		if e := flight.CheckArc(a); e != api.ErrArg {
			t.Errorf("CheckArc(%v): error %d", a, e)
		}
	}
}

func TestSteps(t *testing.T) {
	for _, c := range []struct {
		time, step api.Num
		want       int
		e          api.Errno
	}{
		{5 * api.One, 2 * api.One, 3, api.OK},
		{4 * api.One, 2 * api.One, 2, api.OK},
		{1, 2, 1, api.OK},
		{2, 2, 1, api.OK},
		{3, 2, 2, api.OK},
		{4095, 1, 4095, api.OK},
		{4096, 1, 4096, api.OK},
		{4097, 1, 0, api.ErrLong},
		{8191, 2, 4096, api.OK},
		{8192, 2, 4096, api.OK},
		{8193, 2, 0, api.ErrLong},
		{1 << 32, 1, 0, api.ErrLong},
		{1<<32 + 1, 1, 0, api.ErrLong},
		{api.MostNum, 1, 0, api.ErrLong},
		{api.MostNum, 2, 0, api.ErrLong},
		{api.MostNum, api.MostNum, 1, api.OK},
		{api.MostNum, api.MostNum - 1, 2, api.OK},
		{api.MostNum - 1, api.MostNum, 1, api.OK},
	} {
		n, e := flight.Steps(api.Arc{Time: c.time, Step: c.step})
		is(t, "Steps", n, e, c.want, c.e)
	}
	for _, a := range badArcs() {
		n, e := flight.Steps(a)
		is(t, "Steps of an arc that is not valid", n, e, 0, api.ErrArg)
	}
	long := launching().a
	long.Time, long.Step, long.Dir[0] = api.MostNum, 1, ints(2, 2)
	n, e := flight.Steps(long)
	is(t, "Steps of an arc that is not valid, and too long", n, e, 0, api.ErrArg)
}

// refused fails unless Force, Step, Fly and Back return an error for a scene.
func refused(t *testing.T, what string, c scene, want api.Errno) {
	t.Helper()
	f, e := flight.Force(c.p, c.a, c.s)
	is(t, "Force, "+what, f, e, api.Box{}, want)
	next, tube, e := flight.Step(c.p, c.a, c.s, c.h)
	is(t, "Step, "+what, next, e, api.State{}, want)
	is(t, "Step, "+what, tube, e, api.Tube{}, want)
	notFlown(t, what, c.p, []api.Arc{c.a}, c.s, want)
}

// notFlown fails unless Fly and Back return an error, and nothing else.
func notFlown(t *testing.T, what string, p api.Planet, l []api.Arc, s api.State, want api.Errno) {
	t.Helper()
	stops, tubes, e := flight.Fly(p, l, s)
	is(t, "Fly, "+what, len(stops)+len(tubes), e, 0, want)
	stops, tubes, e = flight.Back(p, l, s)
	is(t, "Back, "+what, len(stops)+len(tubes), e, 0, want)
}

// anywhere is a box of all numbers.
var anywhere = api.Box{raw(-api.MostNum, api.MostNum), raw(-api.MostNum, api.MostNum), raw(-api.MostNum, api.MostNum)}

func TestPlanetsThatAreNotValid(t *testing.T) {
	for _, p := range badPlanets() {
		c := launching()
		c.p = p
		refused(t, "a planet that is not valid", c, api.ErrArg)
		notFlown(t, "a planet that is not valid, no arcs", p, nil, c.s, api.ErrArg)
		h, e := flight.Height(p, box(1, 2, 3))
		is(t, "Height, a planet that is not valid", h, e, api.Span{}, api.ErrArg)
		h, e = flight.Height(p, anywhere)
		is(t, "Height, a planet that is not valid, and a place that does not fit", h, e, api.Span{}, api.ErrArg)
		for _, place := range []api.Box{{}, anywhere} {
			q, e := flight.Pressure(p, points(2), api.Tube{P: place, M: at(1)})
			is(t, "Pressure, a planet that is not valid", q, e, api.Span{}, api.ErrArg)
		}
		may, sure, e := flight.Rises(p, []api.Tube{{M: at(1)}}, 0)
		is(t, "Rises, a planet that is not valid", [2]int{may, sure}, e, [2]int{}, api.ErrArg)
		may, sure, e = flight.Rises(p, nil, 0)
		is(t, "Rises, a planet that is not valid, no tubes", [2]int{may, sure}, e, [2]int{}, api.ErrArg)
	}
}

func TestStatesThatAreNotValid(t *testing.T) {
	for _, s := range badStates() {
		c := launching()
		good := c.s
		c.s = s
		refused(t, "a state that is not valid", c, api.ErrArg)
		notFlown(t, "a state that is not valid, no arcs", c.p, nil, s, api.ErrArg)
		sure, may := flight.Inside(s, anywhere, anywhere)
		is(t, "Inside, a state that is not valid", [2]bool{sure, may}, api.OK, [2]bool{}, api.OK)
		good.T = s.T
		j, e := flight.Joint(s, good)
		is(t, "Joint, a first state that is not valid", j, e, api.State{}, api.ErrArg)
		j, e = flight.Joint(good, s)
		is(t, "Joint, a second state that is not valid", j, e, api.State{}, api.ErrArg)
		good.T++
		j, e = flight.Joint(good, s)
		is(t, "Joint, a state that is not valid, at another time", j, e, api.State{}, api.ErrArg)
	}
}

func TestArcsThatAreNotValid(t *testing.T) {
	c := launching()
	for _, a := range badArcs() {
		d := c
		d.a = a
		refused(t, "an arc that is not valid", d, api.ErrArg)
		notFlown(t, "an arc behind others that is not valid", c.p, []api.Arc{c.a, c.a, a}, c.s, api.ErrArg)
		notFlown(t, "an arc before others that is not valid", c.p, []api.Arc{a, c.a, c.a}, c.s, api.ErrArg)
	}
}

func TestTubesThatAreNotValid(t *testing.T) {
	good := api.Tube{P: box(9, 9, 9), M: at(1)}
	for _, bad := range badTubes() {
		q, e := flight.Pressure(api.Planet{}, points(2), bad)
		is(t, "Pressure, a tube that is not valid", q, e, api.Span{}, api.ErrArg)
		for _, l := range [][]api.Tube{{bad}, {bad, good}, {good, bad}, {good, good, bad}} {
			may, sure, e := flight.Rises(api.Planet{}, l, 1)
			is(t, "Rises, a tube that is not valid", [2]int{may, sure}, e, [2]int{}, api.ErrArg)
		}
	}
	for _, tube := range goodTubes() {
		_, e := flight.Pressure(api.Planet{}, points(2), tube)
		is(t, "Pressure", 0, e, 0, api.OK)
		may, sure, e := flight.Rises(api.Planet{}, []api.Tube{tube}, 0)
		is(t, "Rises", [2]int{may, sure}, e, [2]int{}, api.OK)
	}
}

func TestBoxesThatAreNotValid(t *testing.T) {
	good := box(1, 2, 3)
	for _, bad := range badBoxes() {
		a, e := flight.Height(api.Planet{}, bad)
		is(t, "Height of a box that is not valid", a, e, api.Span{}, api.ErrArg)
		a, e = flight.Speed(bad)
		is(t, "Speed of a box that is not valid", a, e, api.Span{}, api.ErrArg)
		a, e = flight.Climb(bad, good)
		is(t, "Climb of a first box that is not valid", a, e, api.Span{}, api.ErrArg)
		a, e = flight.Climb(good, bad)
		is(t, "Climb of a second box that is not valid", a, e, api.Span{}, api.ErrArg)
		a, e = flight.Climb(box(0, 0, 0), bad)
		is(t, "Climb in the centre of a box that is not valid", a, e, api.Span{}, api.ErrArg)
		for _, boxes := range [][2]api.Box{{bad, anywhere}, {anywhere, bad}} {
			sure, may := flight.Inside(api.State{P: good, V: good, M: at(1)}, boxes[0], boxes[1])
			is(t, "Inside of a box that is not valid", [2]bool{sure, may}, api.OK, [2]bool{}, api.OK)
		}
	}
}
