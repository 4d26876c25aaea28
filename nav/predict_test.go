package nav_test

// P6.6: states that are moved, and followed from update to update.

import (
	"math/rand/v2"
	"slices"
	"testing"

	"ullage/api"
	"ullage/flight"
	"ullage/nav"
)

// TestPredictByHand checks moves of which the outcome, or the error, is known.
func TestPredictByHand(t *testing.T) {
	s := api.State{T: 3 * api.One, P: api.Box{ints(0, 1), ints(5, 5), ints(0, 0)}, V: box(2, 0, 1), M: ints(4, 5)}
	moved := func(time api.Num, p, v api.Box) api.State {
		return api.State{T: time, P: p, V: v, M: s.M}
	}
	down := api.Planet{Pull: api.Box{ints(0, 0), ints(0, 0), ints(-1, -1)}}
	most := api.Planet{Pull: api.Box{at(api.MostNum), ints(0, 0), ints(0, 0)}}
	least := api.Planet{Pull: api.Box{ints(0, 0), ints(0, 0), at(-api.MostNum)}}
	late, early := s, s
	late.T, early.T = api.MostNum-api.One, -api.MostNum+api.One
	none := api.Box{}
	for _, c := range []struct {
		what string
		p    api.Planet
		s    api.State
		acc  api.Box
		h    api.Num
		want api.State
		e    api.Errno
	}{
		{"forward", api.Planet{}, s, box(1, 0, 0), 2 * api.One, moved(5*api.One, api.Box{ints(6, 7), ints(5, 5), ints(2, 2)}, box(4, 0, 1)), api.OK},
		{"back", api.Planet{}, s, box(1, 0, 0), -2 * api.One, moved(api.One, api.Box{ints(-2, -1), ints(5, 5), ints(-2, -2)}, box(0, 0, 1)), api.OK},
		{"nothing felt", api.Planet{}, s, none, 4 * api.One, moved(7*api.One, api.Box{ints(8, 9), ints(5, 5), ints(4, 4)}, s.V), api.OK},
		{"a pull", down, s, none, 2 * api.One, moved(5*api.One, api.Box{ints(4, 5), ints(5, 5), ints(0, 0)}, box(2, 0, -1)), api.OK},
		{"a pull that is not felt", down, s, box(0, 2, 1), 2 * api.One, moved(5*api.One, api.Box{ints(4, 5), ints(9, 9), ints(2, 2)}, box(2, 4, 1)), api.OK},
		{"spans", api.Planet{}, s, api.Box{ints(-1, 1), ints(0, 0), ints(0, 2)}, 2 * api.One, moved(5*api.One, api.Box{ints(2, 7), ints(5, 5), ints(2, 6)}, api.Box{ints(0, 4), ints(0, 0), ints(1, 5)}), api.OK},
		{"the last time", api.Planet{}, late, none, api.One, moved(api.MostNum, api.Box{ints(2, 3), ints(5, 5), ints(1, 1)}, s.V), api.OK},
		{"behind the last time", api.Planet{}, late, none, api.One + 1, api.State{}, api.ErrRange},
		{"the first time", api.Planet{}, early, none, -api.One, moved(-api.MostNum, api.Box{ints(-2, -1), ints(5, 5), ints(-1, -1)}, s.V), api.OK},
		{"before the first time", api.Planet{}, early, none, -api.One - 1, api.State{}, api.ErrRange},
		{"a length of 0", api.Planet{}, s, none, 0, api.State{}, api.ErrArg},
		{"a length that is no number", api.Planet{}, s, none, -api.MostNum - 1, api.State{}, api.ErrArg},
		{"a length of 0, and a sum that does not fit", most, s, box(1, 0, 0), 0, api.State{}, api.ErrArg},
		{"a length that is no number, and a sum that does not fit", most, s, box(1, 0, 0), -api.MostNum - 1, api.State{}, api.ErrArg},
		{"a sum that does not fit in x", most, s, box(1, 0, 0), 1, api.State{}, api.ErrRange},
		{"a sum that does not fit in z", least, s, box(0, 0, -1), 1, api.State{}, api.ErrRange},
		{"a sum that does not fit, and a step that has no tube", api.Planet{Mu: ints(1, 1), Pull: most.Pull}, placed(box(0, 0, 0)), box(1, 0, 0), 1, api.State{}, api.ErrRange},
		{"the centre of a planet", api.Planet{Mu: ints(1, 1)}, placed(box(0, 0, 0)), none, 1, api.State{}, api.ErrZero},
		{"no tube", api.Planet{Spin: ints(3, 3)}, s, none, api.One, api.State{}, api.ErrState},
	} {
		got, e := nav.Predict(c.p, c.s, c.acc, c.h)
		is(t, c.what, got, e, c.want, c.e)
	}
}

// TestPredictOfBad checks arguments that are not valid.
func TestPredictOfBad(t *testing.T) {
	bad := func(what string, p api.Planet, s api.State, acc api.Box) {
		t.Helper()
		got, e := nav.Predict(p, s, acc, api.One)
		is(t, what, got, e, api.State{}, api.ErrArg)
	}
	// A sum that does not fit comes behind what is not valid.
	most := api.Box{at(api.MostNum), ints(0, 0), ints(0, 0)}
	for _, p := range badPlanets() {
		bad("a planet that is not valid", p, somewhere(), api.Box{})
		if p.Pull == (api.Box{}) {
			p.Pull = most
			bad("a planet that is not valid, and a sum that does not fit", p, somewhere(), box(1, 0, 0))
		}
	}
	for _, s := range badStates() {
		bad("a state that is not valid", api.Planet{}, s, api.Box{})
		bad("a state that is not valid, and a sum that does not fit", api.Planet{Pull: most}, s, box(1, 0, 0))
	}
	for _, a := range badSpans() {
		for i := range 3 {
			var acc api.Box
			acc[i] = a
			bad("an acceleration that is not valid", api.Planet{}, somewhere(), acc)
		}
		bad("a second acceleration that is not valid, and a sum that does not fit", api.Planet{Pull: most}, somewhere(), api.Box{ints(1, 1), ints(0, 0), a})
	}
}

// randomPlanet returns a planet, often none, with a pull.
func randomPlanet(r *rand.Rand) api.Planet {
	p := api.Planet{Pull: aroundBox(r, api.One, api.One/64)}
	if r.IntN(3) == 0 {
		p.Mu, p.Radius, p.Oblate, p.Spin = ints(1, 2), ints(1, 1), around(r, 0, api.One/64), around(r, 0, api.One/64)
	}
	switch r.IntN(16) {
	case 0:
		p.Pull = anyBox(r)
	case 1:
		p.Spin = around(r, upTo(r, 4*api.One), api.One/64)
	}
	return p
}

// randomAcc returns an acceleration.
func randomAcc(r *rand.Rand) api.Box {
	if r.IntN(16) == 0 {
		return anyBox(r)
	}
	return aroundBox(r, api.One, api.One/64)
}

// randomLength returns how long a step lasts, at most 2 s.
func randomLength(r *rand.Rand) api.Num {
	h := 1 + api.Num(r.Int64N(int64(2*api.One)))
	if r.IntN(3) == 0 {
		return -h
	}
	return h
}

// TestPredictExactly holds moves against steps over a planet that pulls more.
func TestPredictExactly(t *testing.T) {
	r := random()
	errors := map[api.Errno]int{}
	for range 8000 {
		p, s, acc, h := randomPlanet(r), randomScene(r).s, randomAcc(r), randomLength(r)
		want, f := xPredict(p, s, acc, h)
		got, e := nav.Predict(p, s, acc, h)
		is(t, "a move", got, e, want, f)
		errors[f]++
	}
	for _, e := range []api.Errno{api.OK, api.ErrRange, api.ErrState, api.ErrZero} {
		if errors[e] < 50 {
			t.Errorf("only %d moves have the error %d", errors[e], e)
		}
	}
}

// follows fails unless Follow returns states, a number, and an error.
func follows(t *testing.T, what string, p api.Planet, s api.State, l []api.Update, rounds int, want []api.State, n int, f api.Errno) {
	t.Helper()
	got, m, e := nav.Follow(p, s, l, rounds)
	if !slices.Equal(got, want) || m != n || e != f {
		t.Errorf("%s: %v, %d, error %d; want %v, %d, error %d", what, got, m, e, want, n, f)
	}
}

// TestFollowByHand checks updates of which the outcome, or the error, is known.
func TestFollowByHand(t *testing.T) {
	s := api.State{P: api.Box{ints(0, 1), ints(0, 0), ints(0, 0)}, V: box(2, 0, 0), M: ints(1, 1)}
	onto := func(time, lo, hi, v int) api.State {
		return api.State{T: api.Num(time) * api.One, P: api.Box{ints(lo, hi), ints(0, 0), ints(0, 0)}, V: box(v, 0, 0), M: s.M}
	}
	faster := api.Update{H: 2 * api.One, Acc: box(1, 0, 0)}
	heard := api.Update{H: 2 * api.One, Acc: box(1, 0, 0), Heard: []api.Radio{onX(7, 9)}}
	wait := api.Update{H: api.One}
	wrong := api.Update{H: api.One, Heard: []api.Radio{onX(80, 90)}}
	tooMany := api.Update{H: api.One, Heard: make([]api.Radio, 17)}
	notValid := api.Update{H: api.One, Heard: []api.Radio{{Kind: 4}}}
	crossed := api.Update{H: api.One, Heard: []api.Radio{onX(2, 3), along(2, 1, 1, 0, ints(3, 3)), onX(3, 3)}}
	for _, c := range []struct {
		what   string
		l      []api.Update
		rounds int
		want   []api.State
		n      int
		e      api.Errno
	}{
		{"no updates", nil, 1, nil, 0, api.OK},
		{"nothing heard", []api.Update{faster, wait}, 1, []api.State{onto(2, 6, 7, 4), onto(3, 10, 11, 4)}, 2, api.OK},
		{"something heard", []api.Update{heard, wait}, 1, []api.State{onto(2, 7, 7, 4), onto(3, 11, 11, 4)}, 2, api.OK},
		{"something heard in no round", []api.Update{heard, wait}, 0, []api.State{onto(2, 6, 7, 4), onto(3, 10, 11, 4)}, 2, api.OK},
		{"something heard at the end", []api.Update{wait, wait, crossed}, 16, []api.State{onto(1, 2, 3, 2), onto(2, 4, 5, 2)}, 2, api.ErrNone},
		{"all heard", []api.Update{crossed}, 16, []api.State{onto(1, 3, 3, 2)}, 1, api.OK},
		{"back", []api.Update{{H: -api.One}, wait}, 1, []api.State{onto(-1, -2, -1, 2), onto(0, 0, 1, 2)}, 2, api.OK},
		{"something wrong", []api.Update{wait, wrong, wait}, 1, []api.State{onto(1, 2, 3, 2)}, 1, api.ErrNone},
		{"something wrong at first", []api.Update{wrong, wait}, 1, nil, 0, api.ErrNone},
		{"too many measurements", []api.Update{wait, tooMany, wait}, 1, []api.State{onto(1, 2, 3, 2)}, 1, api.ErrLong},
		{"a measurement that is not valid", []api.Update{wait, wait, notValid}, 1, []api.State{onto(1, 2, 3, 2), onto(2, 4, 5, 2)}, 2, api.ErrArg},
		{"a measurement that is not valid, behind an error", []api.Update{wrong, notValid}, 1, nil, 0, api.ErrNone},
		{"a length of 0", []api.Update{wait, {}}, 1, []api.State{onto(1, 2, 3, 2)}, 1, api.ErrArg},
		{"a length of 0 and too many measurements", []api.Update{{Heard: tooMany.Heard}}, 1, nil, 0, api.ErrArg},
		{"a step that fails, and a measurement that is not valid", []api.Update{{H: api.MostNum, Heard: notValid.Heard}}, 1, nil, 0, api.ErrRange},
		{"an acceleration that is not valid", []api.Update{wait, {H: 1, Acc: api.Box{raw(1, 0)}}}, 1, []api.State{onto(1, 2, 3, 2)}, 1, api.ErrArg},
	} {
		follows(t, c.what, api.Planet{}, s, c.l, c.rounds, c.want, c.n, c.e)
	}
	states, n, e := nav.Follow(api.Planet{}, s, slices.Repeat([]api.Update{wait}, 256), 1)
	if e != api.OK || n != 256 || len(states) != 256 || states[255] != onto(256, 512, 513, 2) {
		t.Errorf("256 updates: %d states, %d, error %d", len(states), n, e)
	}
}

// TestFollowOfBad checks arguments that are not valid, and which error comes first.
func TestFollowOfBad(t *testing.T) {
	l := []api.Update{{H: api.One}}
	many := slices.Repeat(l, 257)
	for _, p := range badPlanets() {
		follows(t, "a planet that is not valid", p, somewhere(), l, 1, nil, 0, api.ErrArg)
		follows(t, "a planet that is not valid, and no updates", p, somewhere(), nil, 1, nil, 0, api.ErrArg)
		follows(t, "a planet that is not valid, and too many updates", p, somewhere(), many, 1, nil, 0, api.ErrArg)
	}
	for _, s := range badStates() {
		follows(t, "a state that is not valid", api.Planet{}, s, l, 1, nil, 0, api.ErrArg)
		follows(t, "a state that is not valid, and no updates", api.Planet{}, s, nil, 1, nil, 0, api.ErrArg)
		follows(t, "a state that is not valid, and too many updates", api.Planet{}, s, many, 1, nil, 0, api.ErrArg)
	}
	for _, n := range badRounds() {
		follows(t, "rounds that may not be", api.Planet{}, somewhere(), l, n, nil, 0, api.ErrArg)
		follows(t, "rounds that may not be, and no updates", api.Planet{}, somewhere(), nil, n, nil, 0, api.ErrArg)
		follows(t, "rounds that may not be, and too many updates", api.Planet{}, somewhere(), many, n, nil, 0, api.ErrArg)
	}
	follows(t, "too many updates", api.Planet{}, somewhere(), many, 1, nil, 0, api.ErrLong)
	follows(t, "too many updates that are not valid", api.Planet{}, somewhere(), make([]api.Update, 300), 1, nil, 0, api.ErrLong)
}

// TestFollowExactly holds updates against the chapter's description.
func TestFollowExactly(t *testing.T) {
	r := random()
	errors := map[api.Errno]int{}
	for range 1500 {
		p, s := randomPlanet(r), near(r, 16*api.One, api.One, api.One).s
		var l []api.Update
		truth := s
		for range r.IntN(6) {
			u := api.Update{H: randomLength(r), Acc: randomAcc(r)}
			truth, _ = nav.Predict(p, truth, u.Acc, u.H)
			for range r.IntN(3) {
				if flight.CheckState(truth) == api.OK {
					u.Heard = append(u.Heard, hear(r, truth, 16*api.One, 4*api.One))
				}
			}
			l = append(l, u)
		}
		rounds := r.IntN(4)
		want, n, f := xFollow(p, s, l, rounds)
		follows(t, "updates", p, s, l, rounds, want, n, f)
		errors[f]++
	}
	for _, e := range []api.Errno{api.OK, api.ErrNone, api.ErrRange} {
		if errors[e] < 30 {
			t.Errorf("only %d end with the error %d", errors[e], e)
		}
	}
}
