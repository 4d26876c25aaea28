package flight_test

// P3.2 (step).

import (
	"testing"

	"ullage/api"
	"ullage/flight"
)

// sameStep holds Step against the formulas in exact arithmetic, and returns the number of tries and the error.
func sameStep(t *testing.T, c scene) (tries int, e api.Errno) {
	t.Helper()
	var next api.State
	var tube api.Tube
	e = attempt(func() { next, tube, tries = exactStep(c.p, c.a, c.s, c.h, exactTries) })
	gotNext, gotTube, f := flight.Step(c.p, c.a, c.s, c.h)
	if gotNext != next || gotTube != tube || e != f {
		t.Errorf("Step of %+v: %v, %v, error %d; want %v, %v, error %d", c, gotNext, gotTube, f, next, tube, e)
	}
	return tries, e
}

func TestStepIsExact(t *testing.T) {
	r := random()
	counts := map[api.Errno]int{}
	most := 0
	for range 12000 {
		tries, e := sameStep(t, randomScene(r))
		counts[e]++
		most = max(most, tries)
	}
	for _, e := range []api.Errno{api.OK, api.ErrRange, api.ErrState, api.ErrZero} {
		if counts[e] < 20 {
			t.Errorf("%d steps with the error %d", counts[e], e)
		}
	}
	if most != exactTries {
		t.Errorf("no step has more than %d tries", most)
	}
}

func TestStepByHand(t *testing.T) {
	c := falling()
	next, tube, e := flight.Step(c.p, c.a, c.s, 16*api.One)
	is(t, "the example", next, e, api.State{T: 16 * api.One, P: box(16, 0, 15), V: api.Box{ints(1, 1), at(0), at(api.One * 7 / 8)}, M: ints(1, 1)}, api.OK)
	// The places are led by the velocities that were tried, which are wider than those of the tube: from 7/8 to 1, grown by an eighth of it, and a bit.
	room := api.Num(api.One/64 + 65536)
	is(t, "the example's tube", tube, e, api.Tube{
		From: 0, To: 16 * api.One, M: ints(1, 1),
		P: api.Box{ints(0, 16), at(0), raw(0, 16*(api.One+room))}, V: api.Box{ints(1, 1), at(0), raw(api.One*7/8, api.One)},
	}, api.OK)

	// Without forces the mass is that of the flow, and the place that of the velocity.
	arc := api.Arc{Time: 1, Step: 1, Flow: raw(api.One/4, api.One/2)}
	s := api.State{T: 5 * api.One, P: api.Box{ints(0, 1), ints(-1, 0), at(0)}, V: api.Box{ints(1, 2), ints(0, 0), ints(-1, 1)}, M: ints(3, 4)}
	next, tube, e = flight.Step(api.Planet{}, arc, s, 2*api.One)
	is(t, "a step without forces", next, e, api.State{T: 7 * api.One, P: api.Box{ints(2, 5), ints(-1, 0), ints(-2, 2)}, V: s.V, M: raw(2*api.One, 4*api.One-api.One/2)}, api.OK)
	is(t, "its tube", tube, e, api.Tube{From: 5 * api.One, To: 7 * api.One, P: api.Box{ints(0, 5), ints(-1, 0), ints(-2, 2)}, V: s.V, M: ints(2, 4)}, api.OK)
	next, tube, e = flight.Step(api.Planet{}, arc, s, -2*api.One)
	is(t, "a step back without forces", next, e, api.State{T: 3 * api.One, P: api.Box{ints(-4, -1), ints(-1, 0), ints(-2, 2)}, V: s.V, M: raw(3*api.One+api.One/2, 5*api.One)}, api.OK)
	is(t, "its tube", tube, e, api.Tube{From: 3 * api.One, To: 5 * api.One, P: api.Box{ints(-4, 1), ints(-1, 0), ints(-2, 2)}, V: s.V, M: ints(3, 5)}, api.OK)
}

// TestStepGrows follows the tries of a step whose velocity alone changes, by hand.
func TestStepGrows(t *testing.T) {
	// With a pull of 1 along x from rest: the first try leads the velocity to (0, 1), which becomes (0, 1) grown by 1/8 and 65536.
	// The second one leads the place to that span, whose place becomes that grown again; the third one finds the tube.
	p := api.Planet{Pull: box(1, 0, 0)}
	_, tube, e := flight.Step(p, api.Arc{Time: 1, Step: 1}, api.State{M: ints(1, 1)}, api.One)
	room := api.One/8 + 65536
	want := api.Tube{To: api.One, P: api.Box{raw(-room, api.One+room), at(0), at(0)}, V: api.Box{ints(0, 1), at(0), at(0)}, M: ints(1, 1)}
	is(t, "a tube", tube, e, want, api.OK)
	// A span whose width is no multiple of 8 is grown by an eighth of it, rounded down.
	p.Pull[0] = at(api.One + 15)
	_, tube, e = flight.Step(p, api.Arc{Time: 1, Step: 1}, api.State{M: ints(1, 1)}, api.One)
	room++
	want.P[0], want.V[0] = raw(-room, api.One+15+room), raw(0, api.One+15)
	is(t, "a tube", tube, e, want, api.OK)
}

// TestTries has steps that need each number of tries, and some that need more than there are.
func TestTries(t *testing.T) {
	seen := map[int]bool{}
	for _, v := range []int{0, 2} {
		c := scene{p: api.Planet{Mu: ints(20, 20), Spin: at(api.One / 4)}, a: api.Arc{Time: 1, Step: 1}, s: api.State{P: box(5, 0, 1), V: box(0, v, 0), M: ints(1, 1)}}
		for c.h = api.One / 256; c.h < api.One; c.h += api.One / 512 {
			tries := 0
			if e := attempt(func() { _, _, tries = exactStep(c.p, c.a, c.s, c.h, 3*exactTries) }); e != api.OK {
				break
			}
			seen[tries] = true
			want := api.OK
			if tries > exactTries {
				want = api.ErrState
			}
			if _, e := sameStep(t, c); e != want {
				t.Errorf("a step of %d needs %d tries, and has the error %d", c.h, tries, e)
			}
		}
	}
	for tries := 3; tries <= exactTries+1; tries++ {
		if !seen[tries] {
			t.Errorf("no step needs %d tries", tries)
		}
	}
	c := falling()
	if tries, e := sameStep(t, c); tries != 2 || e != api.OK {
		t.Errorf("the example needs %d tries, error %d", tries, e)
	}
	// Without any force, and at rest, the first try finds the tube.
	at0 := scene{a: c.a, s: api.State{M: ints(1, 1)}, h: api.One}
	if tries, e := sameStep(t, at0); tries != 1 || e != api.OK {
		t.Errorf("at rest a step needs %d tries, error %d", tries, e)
	}
}

// TestStepTimes has the lengths that a step may have, and the times at which it may begin.
func TestStepTimes(t *testing.T) {
	rest := api.State{M: ints(1, 1)}
	arc := api.Arc{Time: 1, Step: 1}
	for _, c := range []struct {
		begin, h api.Num
		e        api.Errno
	}{
		{0, api.One, api.OK},
		{0, -api.One, api.OK},
		{0, 1, api.OK},
		{0, -1, api.OK},
		{0, 0, api.ErrArg},
		{5, 0, api.ErrArg},
		{0, none, api.ErrArg},
		{api.MostNum, none, api.ErrArg},
		{-api.MostNum, none, api.ErrArg},
		{api.MostNum - 5, 5, api.OK},
		{api.MostNum - 5, 6, api.ErrRange},
		{5 - api.MostNum, -5, api.OK},
		{5 - api.MostNum, -6, api.ErrRange},
		{5 - api.MostNum, -7, api.ErrRange},
		{api.MostNum, api.MostNum, api.ErrRange},
		{-api.MostNum, -api.MostNum, api.ErrRange},
		{-api.MostNum, 2 * api.One, api.OK},
		{api.MostNum, -2 * api.One, api.OK},
		{0, 60000 * api.One, api.ErrRange}, // the square of the length does not fit
		{0, -api.MostNum, api.ErrRange},
	} {
		s := rest
		s.T = c.begin
		next, tube, e := flight.Step(api.Planet{}, arc, s, c.h)
		want, wantTube := api.State{}, api.Tube{}
		if c.e == api.OK {
			want, wantTube = api.State{T: c.begin + c.h, M: s.M}, api.Tube{From: c.begin + min(c.h, 0), To: c.begin + max(c.h, 0), M: s.M}
		}
		is(t, "Step", next, e, want, c.e)
		is(t, "Step", tube, e, wantTube, c.e)
	}
}

// TestStepErrors checks which error is the first one.
func TestStepErrors(t *testing.T) {
	heavy := api.Planet{Mu: ints(100, 100)}
	flow := api.Arc{Time: 1, Step: 1, Flow: ints(1, 2)}
	arc := api.Arc{Time: 1, Step: 1}
	least := api.One * 2
	for _, c := range []struct {
		what string
		c    scene
		e    api.Errno
	}{
		{"all mass flows", scene{a: flow, s: api.State{M: raw(least, 9*api.One)}, h: api.One}, api.ErrRange},
		{"hardly all mass flows", scene{a: flow, s: api.State{M: raw(least+1, 9*api.One)}, h: api.One}, api.OK},
		{"more than all mass flows", scene{a: flow, s: api.State{M: at(1)}, h: api.One}, api.ErrRange},
		{"mass flows back", scene{a: flow, s: api.State{M: at(1)}, h: -api.One}, api.OK},
		{"more mass flows back than fits", scene{a: flow, s: api.State{M: at(api.MostNum)}, h: -api.One}, api.ErrRange},
		{"the centre", scene{p: heavy, a: arc, s: api.State{M: at(1)}, h: api.One}, api.ErrZero},
		{"all mass flows, in the centre", scene{p: heavy, a: flow, s: api.State{M: at(1)}, h: api.One}, api.ErrRange},
		{"the time does not fit, in the centre", scene{p: heavy, a: arc, s: api.State{T: api.MostNum, M: at(1)}, h: 1}, api.ErrRange},
		{"the centre, so fast that the place does not fit", scene{p: heavy, a: arc, s: api.State{V: box(1<<30, 0, 0), M: at(1)}, h: 4 * api.One}, api.ErrZero},
		{"so fast that the place does not fit", scene{a: arc, s: api.State{V: box(1<<30, 0, 0), M: at(1)}, h: 4 * api.One}, api.ErrRange},
		{"so far that the place does not fit", scene{a: arc, s: api.State{P: box(1<<31-1, 0, 0), V: box(1, 0, 0), M: at(1)}, h: api.One}, api.ErrRange},
		{"into the centre", scene{p: heavy, a: arc, s: api.State{P: box(10, 0, 0), V: box(-9, 0, 0), M: at(1)}, h: 2 * api.One}, api.ErrZero},
		{"so far that the centre may be there", scene{p: heavy, a: arc, s: api.State{P: box(100, 0, 0), V: box(0, 1, 0), M: at(1)}, h: 200 * api.One}, api.ErrZero},
		{"so long that no tube is found", scene{p: api.Planet{Spin: ints(1, 1)}, a: arc, s: api.State{P: box(1, 0, 0), M: at(1)}, h: 4 * api.One}, api.ErrState},
		{"a width that does not fit", scene{p: api.Planet{Pull: box(1, 0, 0)}, a: arc, s: api.State{V: api.Box{raw(-api.MostNum/2-api.One, api.MostNum/2), at(0), at(0)}, M: at(1)}, h: api.One / 2}, api.ErrRange},
	} {
		if _, e := sameStep(t, c.c); e != c.e {
			t.Errorf("%s: error %d, want %d", c.what, e, c.e)
		}
	}
}

// TestTriesThatDoNotFit has steps that find no tube, ever farther out: at the last ones some try does not fit, the eighth one first.
func TestTriesThatDoNotFit(t *testing.T) {
	c := scene{p: api.Planet{Spin: ints(1, 1)}, a: api.Arc{Time: 1, Step: 1}, s: api.State{M: ints(1, 1)}, h: api.One}
	last := api.ErrState
	for place := api.One / 4; place < api.MostNum/2; place += place / 64 {
		c.s.P[0] = at(place)
		_, e := sameStep(t, c)
		if e != last && (last != api.ErrState || e != api.ErrRange) {
			t.Errorf("from %d on the error is %d, before %d", place, e, last)
		}
		last = e
	}
	if last != api.ErrRange {
		t.Errorf("far out the error is %d", last)
	}
}

// TestStepDoesNotNeedTheRest checks that a step does not depend on what its formulas do not name.
func TestStepDoesNotNeedTheRest(t *testing.T) {
	c := launching()
	next, tube, e := flight.Step(c.p, c.a, c.s, c.h)
	c.a.Time, c.a.Step, c.a.Drop = 1, api.MostNum, at(api.MostNum)
	gotNext, gotTube, f := flight.Step(c.p, c.a, c.s, c.h)
	is(t, "Step", gotNext, f, next, e)
	is(t, "Step", gotTube, f, tube, e)
	is(t, "Step", 0, e, 0, api.OK)
}
