package flight_test

// P3.6, P3.7 (what follows), P0.1, and the chapter's examples.

import (
	"math/big"
	"math/rand/v2"
	"reflect"
	"slices"
	"testing"

	"ullage/api"
	"ullage/flight"
	"ullage/span"
)

// contains reports whether a state has all that is in another one.
func contains(outer, inner api.State) bool {
	sure, _ := flight.Inside(inner, outer.P, outer.V)
	return sure && outer.T == inner.T && span.Within(inner.M, outer.M)
}

// TestThereAndBack flies forward and back, to a state that has all that was there, and back and forward.
func TestThereAndBack(t *testing.T) {
	r := random()
	found := 0
	for range 1500 {
		c, l := route(r, r.IntN(2) == 0)
		for _, fly := range [][2]flyer{{flight.Fly, flight.Back}, {flight.Back, flight.Fly}} {
			stops, _, e := fly[0](c.p, l, c.s)
			if e != api.OK {
				continue
			}
			stops, _, e = fly[1](c.p, l, stops[len(stops)-1])
			if e != api.OK {
				continue
			}
			found++
			if last := stops[len(stops)-1]; !contains(last, c.s) {
				t.Errorf("%+v does not have all of %+v", last, c.s)
			}
		}
	}
	if found < 500 {
		t.Errorf("only %d ways there and back have no error", found)
	}
}

// TestOtherSteps divides the same time into other steps, which come to states that have something in common.
func TestOtherSteps(t *testing.T) {
	r := random()
	found := 0
	for range 1500 {
		c, l := route(r, r.IntN(2) == 0)
		other := slices.Clone(l)
		for i := range other {
			other[i].Step = other[i].Step/api.Num(1+r.IntN(4)) + 1
		}
		for _, fly := range []flyer{flight.Fly, flight.Back} {
			a, _, e := fly(c.p, l, c.s)
			b, _, f := fly(c.p, other, c.s)
			if e != api.OK || f != api.OK {
				continue
			}
			found++
			for i := range a {
				if _, e := flight.Joint(a[i], b[i]); e != api.OK {
					t.Errorf("%+v and %+v have nothing in common", a[i], b[i])
				}
			}
		}
	}
	if found < 500 {
		t.Errorf("only %d flights have no error", found)
	}
}

// rational returns a number as it is.
func rational(n api.Num) *big.Rat {
	return big.NewRat(int64(n), 1<<32)
}

// hasExactly reports whether a span contains an exact number.
func hasExactly(a api.Span, x *big.Rat) bool {
	return rational(a.Lo).Cmp(x) <= 0 && x.Cmp(rational(a.Hi)) <= 0
}

// TestParabola checks the place p + v t + g t² / 2 and the velocity v + g t of each p and v of a state, and the mass of the flow alone.
func TestParabola(t *testing.T) {
	r := random()
	for range 2000 {
		g := api.Box{at(upTo(r, api.One/16)), at(upTo(r, api.One/16)), at(upTo(r, api.One/16))}
		s := api.State{T: upTo(r, api.One), P: aroundBox(r, 100*api.One, api.One), V: aroundBox(r, 3*api.One, api.One), M: near(900*api.One, upTo(r, api.One/2)+api.One/2)}
		a := api.Arc{Time: 1 + api.Num(r.Int64N(int64(64*api.One))), Flow: sized(r, api.One), Dir: direction(r)}
		a.Step = a.Time/(1+api.Num(r.IntN(6))) + 1
		there, _, e := flight.Fly(api.Planet{Pull: g, Radius: sized(r, api.One), Oblate: around(r, 0, api.One)}, []api.Arc{a}, s)
		back, _, f := flight.Back(api.Planet{Pull: g}, []api.Arc{a}, s)
		if e != api.OK || f != api.OK {
			t.Fatalf("a fall has the errors %d and %d", e, f)
		}
		onParabola(t, s, there[0], g, a, a.Time)
		onParabola(t, s, back[0], g, a, -a.Time)
	}
}

// onParabola checks the ends of all spans of a state, from which something falls for a time.
func onParabola(t *testing.T, s, next api.State, g api.Box, a api.Arc, time api.Num) {
	t.Helper()
	h := rational(time)
	along := func(x *big.Rat, by *big.Rat, n api.Num) *big.Rat {
		return new(big.Rat).Add(x, new(big.Rat).Mul(by, rational(n)))
	}
	half := new(big.Rat).Mul(h, h)
	half.Quo(half, big.NewRat(2, 1))
	for i := range 3 {
		for _, v := range []api.Num{s.V[i].Lo, s.V[i].Hi} {
			if x := along(rational(v), h, g[i].Lo); !hasExactly(next.V[i], x) {
				t.Errorf("the velocity %s is not in %v", x, next.V[i])
			}
			for _, p := range []api.Num{s.P[i].Lo, s.P[i].Hi} {
				if x := along(along(rational(p), h, v), half, g[i].Lo); !hasExactly(next.P[i], x) {
					t.Errorf("the place %s is not in %v", x, next.P[i])
				}
			}
		}
	}
	for _, flow := range []api.Num{a.Flow.Lo, a.Flow.Hi} {
		for _, m := range []api.Num{s.M.Lo, s.M.Hi} {
			if x := along(rational(m), new(big.Rat).Neg(h), flow); !hasExactly(next.M, x) {
				t.Errorf("the mass %s is not in %v", x, next.M)
			}
		}
	}
	if next.T != s.T+time {
		t.Errorf("the time is %d", next.T)
	}
}

// TestThrustDoesNotChangeTheMass checks that the mass is that of the flow, with a thrust and without one.
func TestThrustDoesNotChangeTheMass(t *testing.T) {
	c := launching()
	with, _, e := flight.Step(c.p, c.a, c.s, c.h)
	c.a.Thrust = at(0)
	without, _, f := flight.Step(c.p, c.a, c.s, c.h)
	is(t, "the mass", with.M, e, without.M, f)
	is(t, "the mass", without.M, f, raw(c.s.M.Lo-2*c.a.Flow.Hi, c.s.M.Hi-2*c.a.Flow.Lo), api.OK)
}

// arguments returns arcs, with room behind them and behind their tables in which nothing may be written.
func arguments() (room []api.Arc, drag []api.Point) {
	drag = points(9)
	a := launching().a
	a.Drag = drag[:3]
	return []api.Arc{a, a, {Time: 1, Step: 1}, {Time: 7}}, drag
}

// TestArgumentsAreOnlyRead checks that lists are as they were behind calls, also behind their ends.
func TestArgumentsAreOnlyRead(t *testing.T) {
	c := launching()
	room, drag := arguments()
	tubes := high(ints(1, 1), ints(2, 2), ints(3, 3))
	for range 2 {
		flight.Fly(c.p, room[:3], c.s)
		flight.Back(c.p, room[:3], c.s)
		flight.Force(c.p, room[0], c.s)
		flight.Step(c.p, room[0], c.s, c.h)
		flight.Steps(room[0])
		flight.CheckArc(room[0])
		flight.Rises(c.p, tubes[:2], 0)
		flight.Pressure(c.p, drag[:3], tubes[0])
	}
	wantRoom, wantDrag := arguments()
	if !reflect.DeepEqual(room, wantRoom) || !slices.Equal(drag, wantDrag) || !slices.Equal(tubes, high(ints(1, 1), ints(2, 2), ints(3, 3))) {
		t.Error("an argument has been changed")
	}
}

// TestResultsAreNew checks that a result depends on the arguments alone, and shares no memory with them or with another result.
func TestResultsAreNew(t *testing.T) {
	c := launching()
	for _, fly := range []flyer{flight.Fly, flight.Back} {
		room, _ := arguments()
		other, _ := arguments()
		wantStops, wantTubes, _ := fly(c.p, other[:3], c.s)
		stops, tubes, _ := fly(c.p, room[:3], c.s)
		spoiled, spoiledTubes, _ := fly(c.p, room[:3], c.s)
		clear(room[0].Drag)
		clear(room)
		clear(spoiled[:cap(spoiled)])
		clear(spoiledTubes[:cap(spoiledTubes)])
		if !slices.Equal(stops, wantStops) || !slices.Equal(tubes, wantTubes) {
			t.Error("a result has been changed by what was done to an argument, or to another result")
		}
		stops, tubes, _ = fly(c.p, other[:3], c.s)
		if !slices.Equal(stops, wantStops) || !slices.Equal(tubes, wantTubes) {
			t.Error("the same flight has another result")
		}
	}
}

// anySpans returns spans of any numbers, valid or not.
func anySpans(r *rand.Rand) api.Span {
	switch r.IntN(12) {
	case 0:
		return raw(api.Num(r.Uint64()), api.Num(r.Uint64()))
	case 1:
		return badSpans()[r.IntN(len(badSpans()))]
	}
	return anySpan(r)
}

// TestAnyArguments calls all functions with arguments of any kind: none may panic, and with an error all other results are zero.
func TestAnyArguments(t *testing.T) {
	r := random()
	edge := []api.Num{none, -api.MostNum, -1, 0, 1, api.One, api.MostNum}
	for range 20000 {
		c := randomScene(r)
		for _, a := range []*api.Span{&c.p.Mu, &c.p.Radius, &c.p.Oblate, &c.p.Spin, &c.p.Pull[2], &c.a.Thrust, &c.a.Flow, &c.a.Drop, &c.a.Dir[1], &c.s.P[0], &c.s.V[1], &c.s.M} {
			if r.IntN(12) == 0 {
				*a = anySpans(r)
			}
		}
		for _, n := range []*api.Num{&c.a.Time, &c.a.Step, &c.s.T, &c.h} {
			if r.IntN(12) == 0 {
				*n = edge[r.IntN(len(edge))]
			}
		}
		steps, e := flight.Steps(c.a)
		if e != api.OK && steps != 0 || e == api.OK && (steps < 1 || steps > api.MaxFlown) {
			t.Errorf("Steps(%+v) is %d, error %d", c.a, steps, e)
		}
		force, e := flight.Force(c.p, c.a, c.s)
		zero(t, "Force", force, e, c)
		next, tube, e := flight.Step(c.p, c.a, c.s, c.h)
		zero(t, "Step", next, e, c)
		zero(t, "Step", tube, e, c)
		if e == api.OK && flight.CheckState(next) != api.OK {
			t.Errorf("%+v is not valid", next)
		}
		if steps < 20 {
			for _, fly := range []flyer{flight.Fly, flight.Back} {
				stops, tubes, e := fly(c.p, []api.Arc{c.a, c.a}, c.s)
				zero(t, "a flight", len(stops)+len(tubes), e, c)
			}
		}
		h, e := flight.Height(c.p, c.s.P)
		zero(t, "Height", h, e, c)
		h, e = flight.Speed(c.s.V)
		zero(t, "Speed", h, e, c)
		h, e = flight.Climb(c.s.P, c.s.V)
		zero(t, "Climb", h, e, c)
		made := api.Tube{From: c.s.T, To: c.h, P: c.s.P, V: c.s.V, M: c.s.M}
		h, e = flight.Pressure(c.p, c.a.Drag, made)
		zero(t, "Pressure", h, e, c)
		may, sure, e := flight.Rises(c.p, []api.Tube{made, made}, c.a.Time)
		zero(t, "Rises", [2]int{may, sure}, e, c)
		joint, e := flight.Joint(c.s, next)
		zero(t, "Joint", joint, e, c)
		if surely, perhaps := flight.Inside(c.s, next.P, next.V); surely && !perhaps {
			t.Errorf("%+v is surely, but not perhaps, inside of %+v", c.s, next)
		}
	}
}

// zero fails if there is an error, and a result that is not its zero value.
func zero[T comparable](t *testing.T, what string, got T, e api.Errno, c scene) {
	t.Helper()
	var none T
	if e != api.OK && got != none {
		t.Errorf("%s of %+v: %v, error %d", what, c, got, e)
	}
}

// TestExamples has the table of the chapter's section Examples, and the document's own.
func TestExamples(t *testing.T) {
	c := falling()
	for _, s := range goodStates() {
		f, e := flight.Force(c.p, c.a, s)
		is(t, "the force", f, e, c.p.Pull, api.OK)
	}
	n, e := flight.Steps(api.Arc{Time: 5 * api.One, Step: 2 * api.One})
	is(t, "the steps", n, e, 3, api.OK)
	next, _, e := flight.Step(c.p, c.a, c.s, 16*api.One)
	want := api.State{T: 16 * api.One, P: box(16, 0, 15), V: api.Box{ints(1, 1), at(0), at(api.One * 7 / 8)}, M: ints(1, 1)}
	is(t, "the new state", next, e, want, api.OK)
	h, e := flight.Height(api.Planet{Radius: ints(6, 6)}, box(3, 4, 12))
	is(t, "the height", h, e, ints(7, 7), api.OK)
	v, e := flight.Climb(box(3, 4, 0), box(3, 4, 5))
	is(t, "the climb", v, e, ints(5, 5), api.OK)
}
