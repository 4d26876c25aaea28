package nav_test

// P6.4, P6.5: measurements some of which are wrong.

import (
	"math"
	"slices"
	"testing"

	"ullage/api"
	"ullage/nav"
)

// onX returns a measurement of x.
func onX(lo, hi int) api.Radio {
	return along(2, 1, 0, 0, ints(lo, hi))
}

// atX returns a state with a place on the x axis.
func atX(lo, hi int) api.State {
	return placed(api.Box{ints(lo, hi), ints(0, 0), ints(0, 0)})
}

// TestTrustByHand checks what is left without some measurements.
func TestTrustByHand(t *testing.T) {
	s := atX(0, 99)
	apart := []api.Radio{onX(10, 20), onX(12, 30), onX(40, 50), onX(45, 60)}
	for _, c := range []struct {
		what   string
		l      []api.Radio
		wrong  int
		rounds int
		want   api.State
		e      api.Errno
	}{
		{"none wrong", apart[:2], 0, 2, atX(12, 20), api.OK},
		{"one wrong of two", apart[:2], 1, 2, atX(10, 30), api.OK},
		{"all wrong", apart[:2], 2, 2, s, api.OK},
		{"the only one wrong", apart[:1], 1, 2, s, api.OK},
		{"none heard", nil, 0, 2, s, api.OK},
		{"one wrong of three", apart[:3], 1, 2, atX(12, 20), api.OK},
		{"two wrong of three", apart[:3], 2, 2, atX(10, 50), api.OK},
		{"two wrong of four", apart, 2, 2, atX(12, 50), api.OK},
		{"one wrong of four", apart, 1, 2, api.State{}, api.ErrNone},
		{"none wrong of four", apart, 0, 2, api.State{}, api.ErrNone},
		{"the last one wrong", []api.Radio{onX(0, 5), onX(3, 9), onX(8, 9)}, 1, 2, atX(3, 9), api.OK},
		{"the first one wrong", []api.Radio{onX(90, 95), onX(3, 9), onX(4, 20)}, 1, 2, atX(4, 9), api.OK},
		{"no rounds", apart, 0, 0, s, api.OK},
		{"what does not fit", []api.Radio{{Value: ints(1<<17, 1<<18)}, onX(3, 9)}, 0, 2, atX(3, 9), api.OK},
		{"what does not fit, or the other one, wrong", []api.Radio{{Value: ints(1<<17, 1<<18)}, onX(3, 9)}, 1, 2, s, api.OK},
		{"two wrong of 16", slices.Concat(slices.Repeat([]api.Radio{onX(3, 9)}, 14), []api.Radio{onX(10, 20), onX(30, 40)}), 2, 2, atX(3, 9), api.OK},
		{"three wrong of 16", slices.Concat(slices.Repeat([]api.Radio{onX(3, 9)}, 13), []api.Radio{onX(10, 20), onX(30, 40), onX(50, 60)}), 2, 2, api.State{}, api.ErrNone},
	} {
		got, e := nav.Trust(s, c.l, c.wrong, c.rounds)
		is(t, c.what, got, e, c.want, c.e)
	}
	v := []api.Radio{along(3, 1, 0, 0, ints(1, 2)), along(3, 1, 0, 0, ints(-4, -3))}
	got, e := nav.Trust(s, v, 1, 1)
	want := s
	want.V[0] = ints(-4, 2)
	is(t, "velocities", got, e, want, api.OK)
}

// TestTrustOfBad checks numbers of wrong measurements that may not be, and which error comes first. (TestFuseOfBad checks the other errors.)
func TestTrustOfBad(t *testing.T) {
	s := atX(0, 99)
	bad := func(what string, l []api.Radio, wrong int, want api.Errno) {
		t.Helper()
		got, e := nav.Trust(s, l, wrong, 1)
		is(t, what, got, e, api.State{}, want)
	}
	l := slices.Repeat([]api.Radio{onX(1, 2)}, 5)
	for _, n := range []int{-1, 3, math.MinInt, math.MaxInt} {
		bad("so many wrong ones", l, n, api.ErrArg)
		bad("so many wrong ones of too many", make([]api.Radio, 17), n, api.ErrLong)
	}
	bad("one wrong of none", nil, 1, api.ErrArg)
	bad("two wrong of one", l[:1], 2, api.ErrArg)
	bad("two wrong of one that leaves nothing", []api.Radio{onX(100, 101)}, 2, api.ErrArg)
}

// TestSuspectsByHand checks without which measurements the others may be right.
func TestSuspectsByHand(t *testing.T) {
	for _, c := range []struct {
		what   string
		l      []api.Radio
		rounds int
		want   []int
	}{
		{"none wrong", []api.Radio{onX(1, 5), onX(4, 9)}, 2, nil},
		{"none heard", nil, 2, nil},
		{"one wrong", []api.Radio{onX(1, 5), onX(6, 9), onX(4, 5)}, 2, []int{1}},
		{"one of two wrong", []api.Radio{onX(1, 5), onX(6, 9)}, 2, []int{0, 1}},
		{"the first or the last one wrong", []api.Radio{onX(1, 5), onX(3, 7), onX(6, 9)}, 2, []int{0, 2}},
		{"two wrong", []api.Radio{onX(1, 2), onX(3, 4), onX(5, 6)}, 2, nil},
		{"the only one wrong", []api.Radio{onX(100, 101)}, 1, []int{0}},
		{"wrong in no round", []api.Radio{onX(100, 101)}, 0, nil},
		{"the last one of 16 wrong", append(slices.Repeat([]api.Radio{onX(1, 5)}, 15), onX(6, 7)), 2, []int{15}},
		{"what does not fit, and one that is wrong", []api.Radio{{Value: ints(1<<17, 1<<18)}, onX(100, 101)}, 1, []int{1}},
	} {
		got, e := nav.Suspects(atX(0, 99), c.l, c.rounds)
		are(t, c.what, got, e, c.want, api.OK)
	}
}

// TestTrustExactly holds what is trusted, and what is suspected, against the chapter's description.
func TestTrustExactly(t *testing.T) {
	r := random()
	errors, suspected := map[api.Errno]int{}, 0
	for range 3000 {
		c := randomScene(r)
		rounds := r.IntN(5)
		for wrong := range min(2, len(c.l)) + 1 {
			want, f := xTrust(c.s, c.l, wrong, rounds)
			got, e := nav.Trust(c.s, c.l, wrong, rounds)
			is(t, "what is trusted", got, e, want, f)
			errors[f]++
		}
		who, e := nav.Suspects(c.s, c.l, rounds)
		want := xSuspects(c.s, c.l, rounds)
		are(t, "suspects", who, e, want, api.OK)
		suspected += len(want)
	}
	if errors[api.OK] < 1000 || errors[api.ErrNone] < 500 || suspected < 500 {
		t.Errorf("only %v end so, and %d are suspected", errors, suspected)
	}
}
