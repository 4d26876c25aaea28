package nav_test

// P6.3: rounds of cuts.

import (
	"slices"
	"testing"

	"ullage/api"
	"ullage/nav"
)

// fused is what Fuse returns, apart from its error.
type fused struct {
	s api.State
	n int
}

// fuse calls Fuse.
func fuse(s api.State, l []api.Radio, rounds int) (fused, api.Errno) {
	next, n, e := nav.Fuse(s, l, rounds)
	return fused{next, n}, e
}

// crossing returns a state of places (0 to 8, 0 to 8, 0), and two measurements of which the only place is (4, 0, 0).
func crossing() (api.State, []api.Radio) {
	s := placed(api.Box{ints(0, 8), ints(0, 8), ints(0, 0)})
	return s, []api.Radio{along(2, 1, 1, 0, ints(4, 4)), along(2, 1, -1, 0, ints(4, 4))}
}

// halving returns a state, and two measurements, each round of which leaves the half of x and of y.
func halving() (api.State, []api.Radio) {
	s := placed(api.Box{ints(0, 1<<10), ints(0, 1<<10), ints(0, 0)})
	return s, []api.Radio{along(2, 2, -1, 0, ints(0, 0)), along(2, 1, -1, 0, ints(0, 0))}
}

// TestFuseByHand checks rounds of which the outcome is known.
func TestFuseByHand(t *testing.T) {
	s, l := crossing()
	still, two := halving()
	half := func(n int) api.State {
		return placed(api.Box{raw(0, 512*api.One>>(n-1)), raw(0, 512*api.One>>(n-1)), ints(0, 0)})
	}
	tooGreat := api.Radio{Value: ints(1<<17, 1<<18)}
	wrong := along(2, 1, 0, 0, ints(6, 7))
	const big = 3 << 29
	far := placed(api.Box{ints(0, big), ints(big, big), ints(-big, -big)})
	for _, c := range []struct {
		what   string
		s      api.State
		l      []api.Radio
		rounds int
		want   fused
		e      api.Errno
	}{
		{"two rounds, of which the last one changes nothing", s, l, 16, fused{placed(box(4, 0, 0)), 2}, api.OK},
		{"one round", s, l, 1, fused{placed(box(4, 0, 0)), 1}, api.OK},
		{"no round", s, l, 0, fused{s, 0}, api.OK},
		{"no round of what is wrong", s, []api.Radio{along(2, 0, 0, 0, ints(9, 9))}, 0, fused{s, 0}, api.OK},
		{"nothing heard", s, nil, 16, fused{s, 1}, api.OK},
		{"nothing heard in no round", s, []api.Radio{}, 0, fused{s, 0}, api.OK},
		{"what changes nothing", s, []api.Radio{along(2, 1, 0, 0, ints(-1, 9)), along(3, 1, 0, 0, ints(-9, 9))}, 5, fused{s, 1}, api.OK},
		{"one round of many", still, two, 1, fused{half(1), 1}, api.OK},
		{"two rounds of many", still, two, 2, fused{half(2), 2}, api.OK},
		{"as many rounds as there may be", still, two, 16, fused{half(16), 16}, api.OK},
		{"something wrong", s, append(slices.Clone(l), wrong), 16, fused{}, api.ErrNone},
		{"something wrong in one round", s, append(slices.Clone(l), wrong), 1, fused{}, api.ErrNone},
		{"something wrong at first", s, append([]api.Radio{along(2, 1, 0, 0, ints(9, 9))}, l...), 16, fused{}, api.ErrNone},
		{"what does not fit", s, []api.Radio{tooGreat}, 16, fused{s, 1}, api.OK},
		{"what does not fit before others", s, append([]api.Radio{tooGreat}, l...), 1, fused{placed(box(4, 0, 0)), 1}, api.OK},
		{"what does not fit between others", s, []api.Radio{l[0], tooGreat, l[1]}, 16, fused{placed(box(4, 0, 0)), 2}, api.OK},
		{"what does not fit when x has been cut", far, []api.Radio{along(2, 1, 1, 1, ints(big, big))}, 16, fused{far, 1}, api.OK},
		{"the velocity", s, []api.Radio{along(3, 1, 0, 0, ints(1, 2))}, 16, fused{api.State{T: s.T, P: s.P, V: api.Box{ints(1, 2), ints(0, 1), ints(2, 3)}, M: s.M}, 2}, api.OK},
		{"16 measurements", s, slices.Repeat(l, 8), 16, fused{placed(box(4, 0, 0)), 2}, api.OK},
	} {
		got, e := fuse(c.s, c.l, c.rounds)
		is(t, c.what, got, e, c.want, c.e)
	}
}

// TestFuseOfBad checks the errors of arguments, and their order.
func TestFuseOfBad(t *testing.T) {
	s, l := crossing()
	bad := func(what string, s api.State, l []api.Radio, rounds int, want api.Errno) {
		t.Helper()
		got, e := fuse(s, l, rounds)
		is(t, what, got, e, fused{}, want)
		state, e := nav.Trust(s, l, 0, rounds)
		is(t, "Trust: "+what, state, e, api.State{}, want)
		who, e := nav.Suspects(s, l, rounds)
		are(t, "Suspects: "+what, who, e, nil, want)
	}
	for _, n := range badRounds() {
		bad("rounds that may not be", s, l, n, api.ErrArg)
		bad("rounds that may not be, and nothing left", s, []api.Radio{along(2, 0, 0, 0, ints(9, 9))}, n, api.ErrArg)
	}
	for _, z := range badStates() {
		bad("a state that is not valid", z, l, 1, api.ErrArg)
		bad("a state that is not valid, in no round", z, nil, 0, api.ErrArg)
	}
	for _, m := range badRadios() {
		bad("a measurement that is not valid", s, []api.Radio{l[0], m}, 1, api.ErrArg)
		bad("a measurement that is not valid, in no round", s, []api.Radio{m}, 0, api.ErrArg)
		bad("a measurement that is not valid, behind one that leaves nothing", s, []api.Radio{along(2, 0, 0, 0, ints(9, 9)), m}, 1, api.ErrArg)
	}
	bad("too many measurements", s, make([]api.Radio, 17), 1, api.ErrLong)
	bad("too many measurements, in no round", s, make([]api.Radio, 1000), 0, api.ErrLong)
	bad("too many measurements at a state that is not valid", api.State{}, make([]api.Radio, 17), 1, api.ErrLong)
	bad("too many measurements that are not valid", s, slices.Repeat([]api.Radio{{Kind: 4}}, 17), 1, api.ErrLong)
	bad("too many measurements and rounds", s, make([]api.Radio, 17), 17, api.ErrLong)
}

// TestFuseExactly holds rounds of cuts against the chapter's description.
func TestFuseExactly(t *testing.T) {
	r := random()
	errors, often := map[api.Errno]int{}, [17]int{}
	early := 0
	for range 12000 {
		c := randomScene(r)
		if r.IntN(4) == 0 {
			c = slow(r)
		}
		rounds := r.IntN(17) >> r.IntN(3)
		s, n, f := xFuse(c.s, c.l, rounds)
		got, e := fuse(c.s, c.l, rounds)
		is(t, "rounds", got, e, fused{s, n}, f)
		errors[f]++
		often[n]++
		if f == api.OK && n > 1 && n < rounds {
			early++
		}
	}
	if errors[api.OK] < 1000 || errors[api.ErrNone] < 1000 || early < 500 {
		t.Errorf("only %v end so, and %d early", errors, early)
	}
	for n, many := range often {
		if many < 20 {
			t.Errorf("only %d have %d rounds", many, n)
		}
	}
}
