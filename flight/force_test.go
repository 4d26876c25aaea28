package flight_test

// P3.2 (force).

import (
	"testing"

	"ullage/api"
	"ullage/flight"
)

// sameForce holds Force against the formulas in exact arithmetic, and returns the error.
func sameForce(t *testing.T, c scene) api.Errno {
	t.Helper()
	var want api.Box
	e := attempt(func() {
		want = exactForce(c.p, c.a, exactlyBox(c.s.P), exactlyBox(c.s.V), exactly(c.s.M)).box()
	})
	got, f := flight.Force(c.p, c.a, c.s)
	if got != want || e != f {
		t.Errorf("Force of %+v: %v, error %d; want %v, error %d", c, got, f, want, e)
	}
	return e
}

func TestForceIsExact(t *testing.T) {
	r := random()
	counts := map[api.Errno]int{}
	for range 12000 {
		counts[sameForce(t, randomScene(r))]++
	}
	for _, e := range []api.Errno{api.OK, api.ErrRange, api.ErrZero} {
		if counts[e] < 50 {
			t.Errorf("%d forces with the error %d", counts[e], e)
		}
	}
}

// TestForceOfEach has each force alone, and each but one, of a scene that has all of them.
func TestForceOfEach(t *testing.T) {
	for k := range 64 {
		c := launching()
		for i, s := range []*api.Span{&c.p.Mu, &c.p.Oblate, &c.p.Spin, &c.a.Thrust} {
			if k>>i&1 == 0 {
				*s = at(0)
			}
		}
		if k>>4&1 == 0 {
			c.a.Drag = nil
		}
		if k>>5&1 == 0 {
			c.p.Pull = api.Box{}
		}
		if e := sameForce(t, c); e != api.OK {
			t.Errorf("the forces %b have the error %d", k, e)
		}
	}
}

func TestForceByHand(t *testing.T) {
	arc := api.Arc{Time: 1, Step: 1}
	drag := api.Arc{Time: 1, Step: 1, Drag: []api.Point{{At: 0, Value: ints(2, 2)}, {At: 10 * api.One, Value: ints(4, 4)}}}
	push := api.Arc{Time: 1, Step: 1, Thrust: ints(2, 2), Dir: api.Box{ints(-1, -1), ints(0, 1), raw(-api.One/2, api.One/2)}}
	oblate := api.Planet{Mu: ints(100, 100), Radius: ints(10, 10), Oblate: at(api.One / 4)}
	for _, c := range []struct {
		what string
		p    api.Planet
		a    api.Arc
		s    api.State
		want api.Box
	}{
		{"nothing", api.Planet{}, arc, api.State{P: box(1, 2, 3), V: box(4, 5, 6)}, box(0, 0, 0)},
		{"the pull", api.Planet{Pull: box(1, -2, 3)}, arc, api.State{P: box(1, 2, 3), V: box(4, 5, 6)}, box(1, -2, 3)},
		{"the pull of the example", falling().p, falling().a, launching().s, falling().p.Pull},
		{"the attraction, along x", api.Planet{Mu: ints(100, 100)}, arc, api.State{P: box(10, 0, 0)}, box(-1, 0, 0)},
		{"the attraction, along -y", api.Planet{Mu: ints(100, 100)}, arc, api.State{P: box(0, -5, 0)}, box(0, 4, 0)},
		{"the attraction of a span", api.Planet{Mu: ints(100, 200)}, arc, api.State{P: box(0, 0, 10)}, api.Box{at(0), at(0), ints(-2, -1)}},
		{"the attraction of an oblate planet, at the equator", oblate, arc, api.State{P: box(10, 0, 0)}, api.Box{at(-api.One * 5 / 4), at(0), at(0)}},
		{"the attraction of an oblate planet, at a pole", oblate, arc, api.State{P: box(0, 0, -10)}, api.Box{at(0), at(0), at(api.One / 2)}},
		{"the attraction and a pull", api.Planet{Mu: ints(100, 100), Pull: box(3, 4, 5)}, arc, api.State{P: box(10, 0, 0)}, box(2, 4, 5)},
		{"turning", api.Planet{Spin: ints(1, 1)}, arc, api.State{P: box(3, 5, 7), V: box(1, 2, 0)}, box(7, 3, 0)},
		{"turning the other way", api.Planet{Spin: ints(-2, -2)}, arc, api.State{P: box(3, 5, 7), V: box(1, 2, 9)}, box(4, 24, 0)},
		{"the thrust", api.Planet{}, push, api.State{M: ints(4, 4)}, api.Box{at(-api.One / 2), raw(0, api.One/2), raw(-api.One/4, api.One/4)}},
		{"the thrust of masses", api.Planet{}, push, api.State{M: ints(1, 2)}, api.Box{ints(-2, -1), ints(0, 2), ints(-1, 1)}},
		{"the drag at the height 0", api.Planet{Radius: ints(10, 10)}, drag, api.State{P: box(0, 0, 10), V: box(3, 0, 4)}, box(-30, 0, -40)},
		{"the drag below the first point", api.Planet{Radius: ints(99, 99)}, drag, api.State{P: box(0, 0, 10), V: box(3, 0, 4)}, box(-30, 0, -40)},
		{"the drag at the height 5", api.Planet{Radius: ints(5, 5)}, drag, api.State{P: box(0, 10, 0), V: box(-4, 3, 0)}, box(60, -45, 0)},
		{"the drag of a mass of 2", api.Planet{}, drag, api.State{P: box(0, 10, 0), V: box(-4, 3, 0), M: ints(2, 2)}, box(40, -30, 0)},
		{"the drag in the centre", api.Planet{}, drag, api.State{V: box(0, 0, 1)}, box(0, 0, -2)},
	} {
		if c.s.M == at(0) {
			c.s.M = ints(1, 1)
		}
		f, e := flight.Force(c.p, c.a, c.s)
		is(t, c.what, f, e, c.want, api.OK)
	}
}

// TestForceErrors checks which error is the first one, and that what is left out has none.
func TestForceErrors(t *testing.T) {
	far, fast := ints(1<<20, 1<<20), api.Box{ints(1<<30, 1<<30), at(0), at(0)}
	heavy := api.Planet{Mu: ints(100, 100)}
	turning := api.Planet{Spin: ints(4, 4)}
	both := api.Planet{Mu: ints(100, 100), Spin: ints(4, 4)}
	arc := api.Arc{Time: 1, Step: 1}
	push := api.Arc{Time: 1, Step: 1, Thrust: ints(2, 2), Dir: box(1, 0, 0)}
	drag := api.Arc{Time: 1, Step: 1, Drag: points(2)}
	for _, c := range []struct {
		what string
		p    api.Planet
		a    api.Arc
		s    api.State
		e    api.Errno
	}{
		{"no distance is needed", api.Planet{}, push, api.State{P: api.Box{far, far, far}}, api.OK},
		{"no distance is needed for turning", turning, arc, api.State{P: api.Box{far, far, far}}, api.OK},
		{"a distance that does not fit", heavy, arc, api.State{P: api.Box{far, far, far}}, api.ErrRange},
		{"a distance that does not fit, for the drag alone", api.Planet{}, drag, api.State{P: api.Box{far, far, far}}, api.ErrRange},
		{"the centre", heavy, arc, api.State{}, api.ErrZero},
		{"the centre is in the box", heavy, arc, api.State{P: api.Box{ints(-1, 1), ints(0, 1), ints(-2, 0)}}, api.ErrZero},
		{"a distance that does not fit and may be 0", heavy, arc, api.State{P: api.Box{raw(-far.Hi, far.Hi), at(0), at(0)}}, api.ErrRange},
		{"the centre, where turning does not fit", both, arc, api.State{V: fast}, api.ErrZero},
		{"turning does not fit", turning, arc, api.State{V: fast}, api.ErrRange},
		{"the thrust does not fit", api.Planet{}, push, api.State{M: at(1)}, api.ErrRange},
		{"the centre, where the thrust does not fit", heavy, push, api.State{M: at(1)}, api.ErrZero},
		{"the speed does not fit", api.Planet{}, drag, api.State{V: fast}, api.ErrRange},
		{"the centre, where the speed does not fit", heavy, drag, api.State{V: fast}, api.ErrZero},
		{"the speed does not matter", heavy, arc, api.State{P: box(0, 0, 1), V: fast}, api.OK},
		{"the mass does not matter", heavy, arc, api.State{P: box(0, 0, 1), M: raw(1, api.MostNum)}, api.OK},
		{"so near that the attraction does not fit", heavy, arc, api.State{P: api.Box{at(api.One / (1 << 13)), at(0), at(0)}}, api.ErrRange},
		{"so near that the distance is rounded to 0", heavy, arc, api.State{P: api.Box{at(1), at(0), at(0)}}, api.ErrZero},
		{"a height that does not fit", api.Planet{Radius: raw(0, api.MostNum)}, drag, api.State{P: box(1, 2, 3)}, api.OK},
		{"the sum of the pull and of a half of turning does not fit", api.Planet{Spin: ints(1, 1), Pull: api.Box{at(api.MostNum), at(0), at(0)}}, arc, api.State{P: box(-2, 0, 0), V: box(0, 1, 0)}, api.ErrRange},
		{"the sum of the pull and of all of turning fits", api.Planet{Spin: ints(1, 1), Pull: api.Box{at(api.MostNum), at(0), at(0)}}, arc, api.State{P: box(2, 0, 0), V: box(0, -1, 0)}, api.OK},
		{"the sum of the pull and the thrust does not fit", api.Planet{Pull: api.Box{at(api.MostNum), at(0), at(0)}}, push, api.State{}, api.ErrRange},
	} {
		if c.s.M == at(0) {
			c.s.M = ints(1, 1)
		}
		if e := sameForce(t, scene{p: c.p, a: c.a, s: c.s}); e != c.e {
			t.Errorf("%s: error %d, want %d", c.what, e, c.e)
		}
	}
}

// TestForceDoesNotNeedTheRest checks that the force does not depend on what its formula does not name.
func TestForceDoesNotNeedTheRest(t *testing.T) {
	c := launching()
	want, e := flight.Force(c.p, c.a, c.s)
	c.s.T, c.a.Time, c.a.Step, c.a.Flow, c.a.Drop = api.MostNum, 1, api.MostNum, ints(9, 9), at(api.MostNum)
	got, f := flight.Force(c.p, c.a, c.s)
	is(t, "Force", got, f, want, e)
	c.a.Thrust = at(0)
	c.a.Drag = []api.Point{}
	want, e = flight.Force(c.p, c.a, c.s)
	c.a.Dir, c.a.Drag, c.s.M = box(1, 1, 1), nil, ints(1, 1000)
	got, f = flight.Force(c.p, c.a, c.s)
	is(t, "Force without thrust and drag", got, f, want, e)
}
