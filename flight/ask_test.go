package flight_test

// P3.4 (heights and speeds), P3.5 (questions).

import (
	"math/rand/v2"
	"testing"

	"ullage/api"
	"ullage/flight"
)

// sameSpan holds a result against what is wanted of it in exact arithmetic, and returns the error of that.
func sameSpan(t *testing.T, what string, got api.Span, e api.Errno, want func() exact) api.Errno {
	t.Helper()
	var x api.Span
	f := attempt(func() { x = want().span() })
	is(t, what, got, e, x, f)
	return f
}

// randomBoxes returns a place and a velocity.
func randomBoxes(r *rand.Rand) (place, v api.Box) {
	c := randomScene(r)
	return c.s.P, c.s.V
}

func TestHeightsAndSpeedsAreExact(t *testing.T) {
	r := random()
	counts := map[api.Errno]int{}
	for range 12000 {
		p := randomScene(r).p
		place, v := randomBoxes(r)
		x, y := exactlyBox(place), exactlyBox(v)
		a, e := flight.Height(p, place)
		counts[sameSpan(t, "Height", a, e, func() exact { return xSub(xNorm(x), exactly(p.Radius)) })]++
		a, e = flight.Speed(v)
		counts[sameSpan(t, "Speed", a, e, func() exact { return xNorm(y) })]++
		a, e = flight.Climb(place, v)
		counts[sameSpan(t, "Climb", a, e, func() exact { return xDiv(xDot(x, y), xNorm(x)) })]++
		density := air(r, 1<<r.IntN(58), 1<<r.IntN(60))
		if len(density) == 0 {
			density = []api.Point{{At: anyNum(r) >> 3, Value: sized(r, api.One)}}
		}
		a, e = flight.Pressure(p, density, api.Tube{P: place, V: v, M: at(1)})
		counts[sameSpan(t, "Pressure", a, e, func() exact {
			h := xSub(xNorm(x), exactly(p.Radius))
			return xDiv(xMul(xLook(density, h), xSquare(xNorm(y))), whole(2))
		})]++
	}
	for _, e := range []api.Errno{api.OK, api.ErrRange, api.ErrZero} {
		if counts[e] < 50 {
			t.Errorf("%d answers with the error %d", counts[e], e)
		}
	}
}

func TestHeight(t *testing.T) {
	far := box(1<<20, 0, 0)
	for _, c := range []struct {
		radius api.Span
		place  api.Box
		want   api.Span
		e      api.Errno
	}{
		{ints(6, 6), box(3, 4, 12), ints(7, 7), api.OK},
		{ints(6, 8), box(-3, 4, -12), ints(5, 7), api.OK},
		{at(0), box(0, 0, 0), at(0), api.OK},
		{ints(9, 9), box(0, 0, 1), ints(-8, -8), api.OK},
		{at(0), api.Box{ints(-3, 1), at(0), ints(-2, 4)}, ints(0, 5), api.OK},
		{at(0), far, api.Span{}, api.ErrRange},
		{raw(0, api.MostNum), box(0, 0, 0), raw(-api.MostNum, 0), api.OK},
	} {
		// Of the planet only the radius matters.
		for _, mu := range []api.Span{at(0), ints(9, 9)} {
			h, e := flight.Height(api.Planet{Mu: mu, Radius: c.radius, Pull: far}, c.place)
			is(t, "Height", h, e, c.want, c.e)
		}
	}
}

func TestSpeed(t *testing.T) {
	for _, c := range []struct {
		v    api.Box
		want api.Span
		e    api.Errno
	}{
		{box(3, -4, 12), ints(13, 13), api.OK},
		{box(0, 0, 0), at(0), api.OK},
		{api.Box{ints(-3, 3), ints(-4, 0), at(0)}, ints(0, 5), api.OK},
		{api.Box{ints(3, 6), ints(-8, -4), at(0)}, ints(5, 10), api.OK},
		{box(0, 1<<20, 0), api.Span{}, api.ErrRange},
	} {
		a, e := flight.Speed(c.v)
		is(t, "Speed", a, e, c.want, c.e)
	}
}

func TestClimb(t *testing.T) {
	for _, c := range []struct {
		place, v api.Box
		want     api.Span
		e        api.Errno
	}{
		{box(3, 4, 0), box(3, 4, 5), ints(5, 5), api.OK},
		{box(3, 4, 0), box(-3, -4, 5), ints(-5, -5), api.OK},
		{box(3, 4, 0), box(4, -3, 5), at(0), api.OK},
		{box(0, 0, 2), box(7, 8, -9), ints(-9, -9), api.OK},
		{box(0, 0, 0), box(1, 2, 3), api.Span{}, api.ErrZero},
		{box(0, 0, 0), box(0, 0, 0), api.Span{}, api.ErrZero},
		{api.Box{ints(-1, 1), ints(0, 1), at(0)}, box(1, 2, 3), api.Span{}, api.ErrZero},
		// The products come before the distance, and that before the quotient.
		{api.Box{ints(-1<<10, 1<<10), at(0), at(0)}, box(1<<22, 0, 0), api.Span{}, api.ErrRange},
		{api.Box{ints(-1<<20, 1<<20), at(0), at(0)}, box(0, 0, 0), api.Span{}, api.ErrRange},
		{api.Box{at(api.One >> 12), at(0), at(0)}, box(1<<30, 0, 0), ints(1<<30, 1<<30), api.OK},
	} {
		a, e := flight.Climb(c.place, c.v)
		is(t, "Climb", a, e, c.want, c.e)
	}
}

func TestPressure(t *testing.T) {
	table := []api.Point{{At: 0, Value: ints(6, 6)}, {At: 10 * api.One, Value: ints(2, 4)}}
	for _, c := range []struct {
		radius   int
		place, v api.Box
		want     api.Span
		e        api.Errno
	}{
		{0, box(0, 0, 0), box(0, 3, 4), ints(75, 75), api.OK},
		{5, box(3, 4, 0), box(0, 3, 4), ints(75, 75), api.OK},
		{50, box(3, 4, 0), box(0, 3, 4), ints(75, 75), api.OK},
		{3, box(5, 12, 0), box(0, 0, 2), ints(4, 8), api.OK},
		{0, box(0, 0, 50), box(0, 0, -2), ints(4, 8), api.OK},
		{0, box(0, 3, 4), box(0, 0, 2), ints(8, 10), api.OK},
		{0, api.Box{ints(0, 50), at(0), at(0)}, api.Box{at(0), ints(0, 2), at(0)}, ints(0, 12), api.OK},
		{0, box(1<<20, 0, 0), box(0, 0, 0), api.Span{}, api.ErrRange},
		{0, box(0, 0, 0), box(1<<20, 0, 0), api.Span{}, api.ErrRange},
		{0, box(0, 0, 0), box(40000, 0, 0), api.Span{}, api.ErrRange},
	} {
		q, e := flight.Pressure(api.Planet{Radius: ints(c.radius, c.radius)}, table, api.Tube{From: 1, To: 2, P: c.place, V: c.v, M: ints(1, 9)})
		is(t, "Pressure", q, e, c.want, c.e)
	}
	good := api.Tube{M: at(1)}
	for _, bad := range append(badTables(), nil, []api.Point{}) {
		for _, tube := range []api.Tube{good, {P: anywhere, V: anywhere, M: at(1)}} {
			q, e := flight.Pressure(api.Planet{}, bad, tube)
			is(t, "Pressure, a table that is not valid", q, e, api.Span{}, api.ErrArg)
		}
	}
	_, e := flight.Pressure(api.Planet{}, points(api.MaxTable), good)
	is(t, "Pressure, the longest table", 0, e, 0, api.OK)
}

// high returns tubes at heights.
func high(heights ...api.Span) []api.Tube {
	var l []api.Tube
	for _, h := range heights {
		l = append(l, api.Tube{P: api.Box{at(0), h, at(0)}, M: at(1)})
	}
	return l
}

func TestRises(t *testing.T) {
	low, mid, top := ints(1, 1), ints(1, 3), ints(4, 4)
	for _, c := range []struct {
		what      string
		radius    int
		l         []api.Tube
		height    api.Num
		may, sure int
		e         api.Errno
	}{
		{"a way up", 0, high(low, mid, top), 3 * api.One, 1, 2, api.OK},
		{"a way up, a bit less", 0, high(low, mid, top), 3*api.One - 1, 1, 2, api.OK},
		{"a way up, a bit more", 0, high(low, mid, top), 3*api.One + 1, 2, 2, api.OK},
		{"all the way", 0, high(low, mid, top), api.One, 0, 0, api.OK},
		{"the top", 0, high(low, mid, top), 4 * api.One, 2, 2, api.OK},
		{"above the top", 0, high(low, mid, top), 4*api.One + 1, 0, 0, api.ErrNone},
		{"perhaps", 0, high(low, mid, low), 2 * api.One, 1, -1, api.OK},
		{"perhaps at once", 0, high(mid, mid, mid), 2 * api.One, 0, -1, api.OK},
		{"twice", 0, high(low, top, low, mid, top), 2 * api.One, 1, 1, api.OK},
		{"surely before perhaps", 0, high(top, mid), 2 * api.One, 0, 0, api.OK},
		{"no tubes", 0, nil, 0, 0, 0, api.ErrNone},
		{"no tubes, below all", 0, []api.Tube{}, -api.MostNum, 0, 0, api.ErrNone},
		{"over a planet", 1, high(low, mid, top), 3 * api.One, 2, 2, api.OK},
		{"below the ground", 9, high(low, mid, top), -6 * api.One, 1, 2, api.OK},
		{"any height", 9, high(low), -api.MostNum, 0, 0, api.OK},
		{"no height", 9, high(low), api.MostNum, 0, 0, api.ErrNone},
		{"a place whose height does not fit", 0, high(top, ints(1<<20, 1<<20)), 0, 0, 0, api.ErrRange},
		{"a place whose height does not fit, and none that is high", 0, high(ints(1<<20, 1<<20), low), api.MostNum, 0, 0, api.ErrRange},
		{"what is no number", 0, high(top), none, 0, 0, api.ErrArg},
		{"what is no number, and no tubes", 0, nil, none, 0, 0, api.ErrArg},
		{"what is no number, and a place whose height does not fit", 0, high(ints(1<<20, 1<<20)), none, 0, 0, api.ErrArg},
		{"a tube that is not valid behind a place whose height does not fit", 0, append(high(ints(1<<20, 1<<20)), api.Tube{}), 0, 0, 0, api.ErrArg},
	} {
		may, sure, e := flight.Rises(api.Planet{Radius: ints(c.radius, c.radius)}, c.l, c.height)
		is(t, "Rises, "+c.what, [2]int{may, sure}, e, [2]int{c.may, c.sure}, c.e)
	}
	// There is no limit to the tubes.
	long := high(make([]api.Span, 2*api.MaxFlown)...)
	long = append(long, high(top)...)
	may, sure, e := flight.Rises(api.Planet{}, long, api.One)
	is(t, "Rises, many tubes", [2]int{may, sure}, e, [2]int{2 * api.MaxFlown, 2 * api.MaxFlown}, api.OK)
}

func TestInside(t *testing.T) {
	s := api.State{P: api.Box{ints(1, 2), ints(3, 4), ints(-6, -5)}, V: api.Box{at(7), ints(-1, 1), ints(8, 9)}, M: at(1)}
	ask := func(what string, place, v api.Box, sure, may bool) {
		t.Helper()
		gotSure, gotMay := flight.Inside(s, place, v)
		is(t, "Inside, "+what, [2]bool{gotSure, gotMay}, api.OK, [2]bool{sure, may}, api.OK)
	}
	all := raw(-api.MostNum, api.MostNum)
	ask("itself", s.P, s.V, true, true)
	ask("all", api.Box{all, all, all}, api.Box{all, all, all}, true, true)
	for k := range 6 {
		for _, c := range []struct {
			what          string
			change        func(a api.Span) api.Span
			sure, may     bool
			alsoForPoints bool
		}{
			{"wider", func(a api.Span) api.Span { return raw(a.Lo-1, a.Hi+1) }, true, true, true},
			{"not so high", func(a api.Span) api.Span { return raw(a.Lo, a.Hi-1) }, false, true, false},
			{"not so low", func(a api.Span) api.Span { return raw(a.Lo+1, a.Hi) }, false, true, false},
			{"its end alone", func(a api.Span) api.Span { return at(a.Hi) }, false, true, false},
			{"its beginning and what is below", func(a api.Span) api.Span { return raw(a.Lo-9, a.Lo) }, false, true, false},
			{"its end and what is above", func(a api.Span) api.Span { return raw(a.Hi, a.Hi+9) }, false, true, false},
			{"above", func(a api.Span) api.Span { return raw(a.Hi+1, a.Hi+9) }, false, false, true},
			{"below", func(a api.Span) api.Span { return raw(a.Lo-9, a.Lo-1) }, false, false, true},
		} {
			boxes := [2]api.Box{s.P, s.V}
			a := &boxes[k/3][k%3]
			if a.Lo == a.Hi && !c.alsoForPoints {
				continue
			}
			*a = c.change(*a)
			ask(c.what, boxes[0], boxes[1], c.sure, c.may)
		}
	}
	// One span above and another one partly in it is not inside.
	ask("one above, one in part", api.Box{ints(3, 4), ints(3, 3), s.P[2]}, s.V, false, false)
	// Neither the time nor the mass matters.
	s.T, s.M = api.MostNum, raw(1, api.MostNum)
	ask("itself, at another time", s.P, s.V, true, true)
}

func TestJoint(t *testing.T) {
	a := api.State{T: 5, P: api.Box{ints(1, 3), ints(-3, -1), at(0)}, V: api.Box{ints(0, 9), at(7), ints(-1, 1)}, M: ints(2, 4)}
	b := api.State{T: 5, P: api.Box{ints(2, 4), ints(-4, -2), ints(0, 1)}, V: api.Box{ints(3, 4), ints(0, 1), ints(1, 2)}, M: ints(1, 3)}
	want := api.State{T: 5, P: api.Box{ints(2, 3), ints(-3, -2), at(0)}, V: api.Box{ints(3, 4), at(7), ints(1, 1)}, M: ints(2, 3)}
	for _, pair := range [][2]api.State{{a, b}, {b, a}} {
		j, e := flight.Joint(pair[0], pair[1])
		is(t, "Joint", j, e, want, api.OK)
	}
	j, e := flight.Joint(a, a)
	is(t, "Joint of the same", j, e, a, api.OK)
	for _, later := range []api.Num{6, api.MostNum, 4, -5} {
		j, e = flight.Joint(a, api.State{T: later, P: a.P, V: a.V, M: a.M})
		is(t, "Joint at other times", j, e, api.State{}, api.ErrState)
	}
	for k := range 7 {
		c := a
		x := []*api.Span{&c.P[0], &c.P[1], &c.P[2], &c.V[0], &c.V[1], &c.V[2], &c.M}[k]
		old := *x
		for _, apart := range []api.Span{raw(old.Hi+1, old.Hi+2), raw(min(1, old.Lo-2), old.Lo-1)} {
			*x = apart
			for _, pair := range [][2]api.State{{a, c}, {c, a}} {
				j, e := flight.Joint(pair[0], pair[1])
				is(t, "Joint with nothing in common in one span", j, e, api.State{}, api.ErrNone)
				// The times are held against each other first.
				pair[1].T++
				j, e = flight.Joint(pair[0], pair[1])
				is(t, "Joint with nothing in common, at other times", j, e, api.State{}, api.ErrState)
			}
		}
		for _, end := range []api.Num{old.Lo, old.Hi} {
			*x = at(end)
			j, e := flight.Joint(a, c)
			is(t, "Joint of states that touch in one span", j, e, c, api.OK)
		}
	}
}
