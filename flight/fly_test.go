package flight_test

// P3.3 (flights).

import (
	"slices"
	"testing"

	"ullage/api"
	"ullage/flight"
)

// flyer is Fly or Back.
type flyer func(p api.Planet, l []api.Arc, s api.State) (stops []api.State, tubes []api.Tube, e api.Errno)

// exactFlyer is one of these in exact arithmetic.
type exactFlyer func(p api.Planet, l []api.Arc, s api.State) (stops []api.State, tubes []api.Tube)

// sameFlight holds a flight against the formulas in exact arithmetic, and returns its error.
func sameFlight(t *testing.T, what string, fly flyer, exactly exactFlyer, p api.Planet, l []api.Arc, s api.State) api.Errno {
	t.Helper()
	var stops []api.State
	var tubes []api.Tube
	e := attempt(func() { stops, tubes = exactly(p, l, s) })
	gotStops, gotTubes, f := fly(p, l, s)
	if !slices.Equal(gotStops, stops) || !slices.Equal(gotTubes, tubes) || e != f {
		t.Errorf("%s of %+v, %+v, %+v: %v, %v, error %d; want %v, %v, error %d", what, p, l, s, gotStops, gotTubes, f, stops, tubes, e)
	}
	return e
}

// sameFlights does so for the way there and the way back.
func sameFlights(t *testing.T, p api.Planet, l []api.Arc, s api.State) (there, back api.Errno) {
	t.Helper()
	return sameFlight(t, "Fly", flight.Fly, exactFly, p, l, s), sameFlight(t, "Back", flight.Back, exactBack, p, l, s)
}

func TestFlightsAreExact(t *testing.T) {
	r := random()
	there, back := map[api.Errno]int{}, map[api.Errno]int{}
	for range 3000 {
		c := randomScene(r)
		l := []api.Arc{}
		for range r.IntN(4) {
			a := randomScene(r).a
			if r.IntN(4) > 0 {
				a = randomToy(r).a
			}
			if n, e := flight.Steps(a); e == api.OK && n < 10 {
				l = append(l, a)
			}
		}
		e, f := sameFlights(t, c.p, l, c.s)
		there[e]++
		back[f]++
	}
	for _, e := range []api.Errno{api.OK, api.ErrRange, api.ErrZero, api.ErrState} {
		if there[e] < 10 || back[e] < 10 {
			t.Errorf("%d flights there and %d back with the error %d", there[e], back[e], e)
		}
	}
}

func TestFlightByHand(t *testing.T) {
	// Straight ahead at a speed of 1, with arcs of 5 and of 2 seconds.
	l := []api.Arc{
		{Time: 5 * api.One, Step: 2 * api.One, Flow: ints(1, 1), Drop: ints(2, 3)},
		{Time: 2 * api.One, Step: 2 * api.One, Flow: at(api.One / 2), Drop: ints(4, 4)},
	}
	state := func(time, low, high int) api.State {
		return api.State{T: api.Num(time) * api.One, P: box(time-10, 0, 0), V: box(1, 0, 0), M: ints(low, high)}
	}
	tube := func(from, to, low, high int) api.Tube {
		return api.Tube{From: api.Num(from) * api.One, To: api.Num(to) * api.One, P: api.Box{ints(from-10, to-10), at(0), at(0)}, V: box(1, 0, 0), M: ints(low, high)}
	}
	stops, tubes, e := flight.Fly(api.Planet{}, l, state(10, 20, 20))
	wantStops := []api.State{state(15, 12, 13), state(17, 7, 8)}
	wantTubes := []api.Tube{tube(10, 12, 18, 20), tube(12, 14, 16, 18), tube(14, 15, 15, 16), tube(15, 17, 11, 13)}
	if e != api.OK || !slices.Equal(stops, wantStops) || !slices.Equal(tubes, wantTubes) {
		t.Errorf("there: %v, %v, error %d; want %v, %v", stops, tubes, e, wantStops, wantTubes)
	}
	stops, tubes, e = flight.Back(api.Planet{}, l, state(17, 7, 8))
	wantStops = []api.State{state(15, 12, 13), state(10, 19, 21)}
	wantTubes = []api.Tube{tube(15, 17, 11, 13), tube(14, 15, 14, 17), tube(12, 14, 15, 19), tube(10, 12, 17, 21)}
	if e != api.OK || !slices.Equal(stops, wantStops) || !slices.Equal(tubes, wantTubes) {
		t.Errorf("back: %v, %v, error %d; want %v, %v", stops, tubes, e, wantStops, wantTubes)
	}
}

// TestFlightIsSteps checks that a flight is the steps of its arcs, one behind another.
func TestFlightIsSteps(t *testing.T) {
	c := launching()
	l := []api.Arc{c.a, {Time: 3 * api.One, Step: 5 * api.One}, {Time: 2 * api.One, Step: api.One, Drop: ints(1, 1)}}
	stops, tubes, e := flight.Fly(c.p, l, c.s)
	is(t, "the number of stops and of tubes", [2]int{len(stops), len(tubes)}, e, [2]int{3, 5 + 1 + 2}, api.OK)
	s, k := c.s, 0
	for i, lengths := range [][]api.Num{{2, 2, 2, 2, 1}, {3}, {1, 1}} {
		for _, h := range lengths {
			var tube api.Tube
			s, tube, e = flight.Step(c.p, l[i], s, h*api.One)
			is(t, "a tube", tubes[k], e, tube, api.OK)
			k++
		}
		s.M = raw(s.M.Lo-l[i].Drop.Hi, s.M.Hi-l[i].Drop.Lo)
		is(t, "a stop", stops[i], api.OK, s, api.OK)
	}
	stops, tubes, e = flight.Back(c.p, l, s)
	is(t, "the number of stops and of tubes back", [2]int{len(stops), len(tubes)}, e, [2]int{3, 5 + 1 + 2}, api.OK)
	k = 0
	for i, lengths := range [][]api.Num{{1, 1}, {3}, {1, 2, 2, 2, 2}} {
		a := l[2-i]
		s.M = raw(s.M.Lo+a.Drop.Lo, s.M.Hi+a.Drop.Hi)
		for _, h := range lengths {
			var tube api.Tube
			s, tube, e = flight.Step(c.p, a, s, -h*api.One)
			is(t, "a tube on the way back", tubes[k], e, tube, api.OK)
			k++
		}
		is(t, "a stop on the way back", stops[i], api.OK, s, api.OK)
	}
}

func TestFlightWithoutArcs(t *testing.T) {
	for _, l := range [][]api.Arc{nil, {}} {
		for _, fly := range []flyer{flight.Fly, flight.Back} {
			stops, tubes, e := fly(launching().p, l, launching().s)
			is(t, "a flight without arcs", len(stops)+len(tubes), e, 0, api.OK)
		}
	}
}

// arcs returns so many arcs, each of so many steps.
func arcs(n int, steps api.Num) []api.Arc {
	return slices.Repeat([]api.Arc{{Time: steps, Step: 1}}, n)
}

func TestFlightLimits(t *testing.T) {
	p, s := falling().p, falling().s
	for _, c := range []struct {
		what  string
		l     []api.Arc
		steps int
		e     api.Errno
	}{
		{"32 arcs", arcs(32, 1), 32, api.OK},
		{"33 arcs", arcs(33, 1), 0, api.ErrLong},
		{"4096 steps of an arc", arcs(1, 4096), 4096, api.OK},
		{"4097 steps of an arc", arcs(1, 4097), 0, api.ErrLong},
		{"4096 steps of 32 arcs", arcs(32, 128), 4096, api.OK},
		{"4128 steps of 32 arcs", arcs(32, 129), 0, api.ErrLong},
		{"4096 steps of some arcs", append(arcs(1, 4095), arcs(1, 1)...), 4096, api.OK},
		{"4097 steps of some arcs", append(arcs(1, 4095), arcs(2, 1)...), 0, api.ErrLong},
		{"4097 steps, the last one of what is left", []api.Arc{{Time: 2 * 4096, Step: 2}, {Time: 1, Step: 2}}, 0, api.ErrLong},
		{"4097 steps, one of what is left before others", []api.Arc{{Time: 2*4096 - 1, Step: 2}, {Time: 1, Step: 2}}, 0, api.ErrLong},
		{"4096 steps, the last one of what is left", []api.Arc{{Time: 2*4096 - 1, Step: 2}}, 4096, api.OK},
		{"steps whose number leaves an int", append(arcs(2, api.MostNum), arcs(1, 2)...), 0, api.ErrLong},
		{"steps of many arcs whose number leaves an int", arcs(4, 1<<62), 0, api.ErrLong},
		{"a long arc behind others", append(arcs(3, 1), arcs(1, api.MostNum)...), 0, api.ErrLong},
	} {
		for _, fly := range []flyer{flight.Fly, flight.Back} {
			stops, tubes, e := fly(p, c.l, s)
			is(t, c.what, len(tubes), e, c.steps, c.e)
			if e == api.OK && len(stops) != len(c.l) || e != api.OK && len(stops) != 0 {
				t.Errorf("%s: %d stops", c.what, len(stops))
			}
		}
	}
	// What is not valid comes before what is too long.
	bad := append(arcs(40, 4097), api.Arc{Time: 1})
	notFlown(t, "40 long arcs and one that is not valid", p, bad, s, api.ErrArg)
	p.Mu = raw(-1, 0)
	notFlown(t, "too many arcs, and a planet that is not valid", p, arcs(33, 4097), s, api.ErrArg)
	p, s.M = falling().p, at(0)
	notFlown(t, "too many arcs, and a state that is not valid", p, arcs(33, 4097), s, api.ErrArg)
}

func TestDrops(t *testing.T) {
	s := api.State{P: box(9, 0, 0), M: ints(5, 9)}
	one := api.Num(1)
	for _, c := range []struct {
		what        string
		drop        api.Span
		there, back api.Span
		e, f        api.Errno
	}{
		{"nothing", at(0), ints(5, 9), ints(5, 9), api.OK, api.OK},
		{"a span", ints(1, 3), ints(2, 8), ints(6, 12), api.OK, api.OK},
		{"hardly all", raw(0, 5*api.One-1), raw(1, 9*api.One), raw(5*api.One, 14*api.One-1), api.OK, api.OK},
		{"all", raw(0, 5*api.One), api.Span{}, ints(5, 14), api.ErrRange, api.OK},
		{"more", ints(99, 99), api.Span{}, ints(104, 108), api.ErrRange, api.OK},
		{"more than fits", raw(0, api.MostNum), api.Span{}, api.Span{}, api.ErrRange, api.ErrRange},
		{"what hardly fits", raw(0, api.MostNum-9*api.One), api.Span{}, raw(5*api.One, api.MostNum), api.ErrRange, api.OK},
		{"what does not fit", raw(0, api.MostNum-9*api.One+one), api.Span{}, api.Span{}, api.ErrRange, api.ErrRange},
	} {
		l := []api.Arc{{Time: 1, Step: 1, Drop: c.drop}}
		mass := func(stops []api.State) api.Span {
			if len(stops) == 0 {
				return api.Span{}
			}
			return stops[0].M
		}
		stops, _, e := flight.Fly(api.Planet{}, l, s)
		is(t, "Fly, dropping "+c.what, mass(stops), e, c.there, c.e)
		stops, _, e = flight.Back(api.Planet{}, l, s)
		is(t, "Back, dropping "+c.what, mass(stops), e, c.back, c.f)
		// What is dropped is gone for the next arc.
		l = append(l, api.Arc{Time: api.One, Step: api.One, Flow: ints(1, 1)})
		sameFlights(t, api.Planet{}, l, s)
	}
}

// TestFlightErrors checks that the first error of a step, or of a drop, is the flight's.
func TestFlightErrors(t *testing.T) {
	heavy := api.Planet{Mu: ints(100, 100)}
	still, drops := api.Arc{Time: 1, Step: 1}, api.Arc{Time: 1, Step: 1, Drop: ints(9, 9)}
	crash := api.Arc{Time: 4 * api.One, Step: api.One}
	centre, edge := api.State{M: ints(1, 1)}, api.State{T: api.MostNum, M: ints(1, 1)}
	low := api.State{P: box(10, 0, 0), V: box(-3, 0, 0), M: ints(1, 1)}
	for _, c := range []struct {
		what string
		l    []api.Arc
		s    api.State
		e, f api.Errno
	}{
		{"the centre", []api.Arc{still, drops}, centre, api.ErrZero, api.ErrZero},
		{"the centre, and a drop of too much", []api.Arc{drops}, centre, api.ErrZero, api.ErrZero},
		{"a drop of too much", []api.Arc{still, drops}, low, api.ErrRange, api.OK},
		{"a drop of too much, then the centre", []api.Arc{drops, crash}, low, api.ErrRange, api.OK},
		{"the centre, then a drop of too much", []api.Arc{crash, drops}, low, api.ErrZero, api.OK},
		{"the end of all times", []api.Arc{still}, edge, api.ErrRange, api.ErrZero},
	} {
		e, f := sameFlights(t, heavy, c.l, c.s)
		if e != c.e || f != c.f {
			t.Errorf("%s: error %d there and %d back, want %d and %d", c.what, e, f, c.e, c.f)
		}
	}
	early := low
	early.T = 2 - api.MostNum
	if e, f := sameFlights(t, heavy, []api.Arc{{Time: 3, Step: 1}}, early); e != api.OK || f != api.ErrRange {
		t.Errorf("at the beginning of all times: error %d there and %d back", e, f)
	}
	early.T = -early.T
	if e, f := sameFlights(t, heavy, []api.Arc{{Time: 3, Step: 1}}, early); e != api.ErrRange || f != api.OK {
		t.Errorf("at the end of all times: error %d there and %d back", e, f)
	}
}
