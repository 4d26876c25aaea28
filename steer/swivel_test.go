package steer_test

// P5.8 (gimbals), and what follows of them.

import (
	"math/rand/v2"
	"slices"
	"testing"

	"ullage/api"
	"ullage/steer"
)

// gimbals is the arguments of Swivel.
type gimbals struct {
	thrust      []api.Span
	failed      int
	arm         api.Span
	limit, want api.Num
}

// swivel returns Swivel's results as two.
func (g gimbals) swivel() (two, api.Errno) {
	a, b, e := steer.Swivel(g.thrust, g.failed, g.arm, g.limit, g.want)
	return two{a, b}, e
}

// exact evaluates the formulas of Swivel.
func (g gimbals) exact() (two, api.Errno) {
	var s sheet
	sum, positive := at(0), false
	for i, a := range g.thrust {
		if g.failed&(1<<i) == 0 {
			sum = s.plus(sum, a)
			positive = positive || a.Lo > 0
		}
	}
	if !positive {
		return two{}, api.ErrZero
	}
	angle := s.over(s.over(at(g.want), sum), g.arm)
	angle = raw(max(-g.limit, min(g.limit, angle.Lo)), max(-g.limit, min(g.limit, angle.Hi)))
	short := s.minus(at(g.want), s.times(s.times(sum, g.arm), angle))
	return s.both(angle, short)
}

func TestSwivelByHand(t *testing.T) {
	one, much := ints(1, 1), at(api.MostNum)
	half, quarter := api.One/2, api.One/4
	twelve := points(1, 1, 1, 1, 1, 1, 1, 1, 1, 1, 1, 1)
	for _, c := range []struct {
		gimbals
		want two
		e    api.Errno
	}{
		{gimbals{points(2, 2), 0, one, quarter, api.One}, two{at(quarter), at(0)}, api.OK},
		{gimbals{points(2, 2), 1, one, quarter, api.One}, two{at(quarter), at(half)}, api.OK},
		{gimbals{points(2, 2), 2, one, quarter, api.One}, two{at(quarter), at(half)}, api.OK},
		{gimbals{points(2, 2), 0, one, quarter, -api.One}, two{at(-quarter), at(0)}, api.OK},
		{gimbals{points(2, 2), 1, one, quarter, -api.One}, two{at(-quarter), at(-half)}, api.OK},
		{gimbals{points(2, 6), 0, ints(2, 2), api.One, 4 * api.One}, two{at(quarter), at(0)}, api.OK},
		{gimbals{points(2, 6), 1, ints(2, 2), api.One, 3 * api.One}, two{at(quarter), at(0)}, api.OK},
		{gimbals{points(2, 6), 2, ints(2, 2), api.One, api.One}, two{at(quarter), at(0)}, api.OK},
		{gimbals{points(2, 6), 2, ints(2, 2), 0, api.One}, two{at(0), at(api.One)}, api.OK},
		{gimbals{points(2, 6), 2, ints(2, 2), api.One, 0}, two{at(0), at(0)}, api.OK},
		{gimbals{points(2, 6), 2, ints(2, 2), api.MostNum, api.One}, two{at(quarter), at(0)}, api.OK},
		{gimbals{[]api.Span{ints(1, 2), ints(1, 2)}, 0, one, api.One, api.One}, two{raw(quarter, half), raw(-api.One, half)}, api.OK},
		{gimbals{[]api.Span{ints(1, 2), ints(1, 2)}, 0, ints(1, 2), api.One, 4 * api.One}, two{raw(half, api.One), ints(-4, 3)}, api.OK},
		{gimbals{[]api.Span{ints(1, 2), ints(1, 2)}, 0, one, quarter * 3 / 2, api.One}, two{raw(quarter, quarter*3/2), raw(-half, half)}, api.OK},
		{gimbals{[]api.Span{ints(0, 2), ints(1, 2)}, 0, one, api.One, api.One}, two{raw(quarter, api.One), raw(-3*api.One, quarter*3)}, api.OK},
		{gimbals{twelve, 0, one, api.One, 6 * api.One}, two{at(half), at(0)}, api.OK},
		{gimbals{twelve, 1<<12 - 2, one, api.One, api.One}, two{at(api.One), at(0)}, api.OK},
		{gimbals{twelve, 1<<12 - 1, one, api.One, api.One}, two{}, api.ErrZero},
		{gimbals{nil, 0, one, api.One, api.One}, two{}, api.ErrZero},
		{gimbals{points(0), 0, one, api.One, api.One}, two{}, api.ErrZero},
		{gimbals{points(0, 2), 2, one, api.One, api.One}, two{}, api.ErrZero},
		{gimbals{[]api.Span{ints(0, 2), ints(0, 2)}, 0, one, api.One, api.One}, two{}, api.ErrZero},
		{gimbals{[]api.Span{ints(0, 2), raw(1, api.One)}, 0, one, api.One, 1}, two{raw(0, api.One), raw(1-3*api.One, 1)}, api.OK},
		// A sum that has 0, and does not fit: ErrZero comes first.
		{gimbals{[]api.Span{raw(0, api.MostNum), raw(0, api.MostNum)}, 0, one, api.One, api.One}, two{}, api.ErrZero},
		{gimbals{[]api.Span{raw(0, api.MostNum), raw(1, api.MostNum)}, 0, one, api.One, api.One}, two{}, api.ErrRange},
		{gimbals{[]api.Span{much, much}, 0, one, api.One, api.One}, two{}, api.ErrRange},
		{gimbals{[]api.Span{much, much}, 1, one, api.One, 0}, two{at(0), at(0)}, api.OK},
		// Each other operation that does not fit.
		{gimbals{[]api.Span{at(half)}, 0, ints(4, 4), api.One, api.MostNum}, two{}, api.ErrRange},
		{gimbals{[]api.Span{ints(4, 4)}, 0, at(quarter / 2), api.One, api.MostNum}, two{}, api.ErrRange},
		{gimbals{[]api.Span{much}, 0, ints(2, 2), 0, api.One}, two{}, api.ErrRange},
		{gimbals{[]api.Span{raw(1, api.MostNum)}, 0, one, 4 * api.One, api.One}, two{}, api.ErrRange},
	} {
		got, e := c.swivel()
		is(t, "Swivel", got, e, c.want, c.e)
		if t.Failed() {
			t.Fatal(c)
		}
	}
}

func TestSwivelErrors(t *testing.T) {
	good := func() gimbals {
		return gimbals{points(2, 2), 0, ints(1, 1), api.One / 4, api.One}
	}
	bad := []func(g *gimbals){
		func(g *gimbals) { g.failed = 4 },
		func(g *gimbals) { g.failed = 5 },
		func(g *gimbals) { g.failed = -1 },
		func(g *gimbals) { g.failed = -1 << 63 },
		func(g *gimbals) { g.failed = 1 << 62 },
		func(g *gimbals) { g.arm = ints(0, 0) },
		func(g *gimbals) { g.arm = ints(0, 1) },
		func(g *gimbals) { g.arm = raw(-1, 1) },
		func(g *gimbals) { g.arm = ints(-2, -1) },
		func(g *gimbals) { g.limit = -1 },
		func(g *gimbals) { g.limit = -api.MostNum },
		func(g *gimbals) { g.limit = none },
		func(g *gimbals) { g.want = none },
		func(g *gimbals) { g.thrust[0] = raw(-1, 1) },
		func(g *gimbals) { g.thrust[1] = raw(-1, -1) },
	}
	for _, a := range badSpans() {
		bad = append(bad,
			func(g *gimbals) { g.arm = a },
			func(g *gimbals) { g.thrust[0] = a },
			func(g *gimbals) { g.thrust[1] = a },
			func(g *gimbals) { g.thrust[1], g.failed = a, 2 },
		)
	}
	others := []func(g *gimbals){
		func(g *gimbals) {},
		func(g *gimbals) { g.thrust[0] = ints(0, 0) },
		func(g *gimbals) { g.thrust[0] = at(api.MostNum) },
		func(g *gimbals) { g.thrust = slices.Concat(g.thrust, points(1, 2, 3, 4, 5, 6, 7, 8, 9, 10)) },
	}
	for _, spoil := range bad {
		for i, other := range others {
			g := good()
			other(&g)
			spoil(&g)
			if i == 3 && g.failed != -1 && g.failed != -1<<63 && g.failed != 1<<62 && g.failed != 0 && g.failed != 2 {
				continue // a mask of two engines may be one of twelve
			}
			got, e := g.swivel()
			is(t, "Swivel of what is not valid", got, e, two{}, api.ErrArg)
		}
		g := good()
		g.thrust = slices.Concat(g.thrust, points(1, 2, 3, 4, 5, 6, 7, 8, 9, 10, 11))
		spoil(&g)
		got, e := g.swivel()
		is(t, "Swivel of too many", got, e, two{}, api.ErrLong)
	}
	g := good()
	g.thrust[1] = raw(-1, 1)
	g.failed = 2
	got, e := g.swivel()
	is(t, "Swivel of a negative thrust that has failed", got, e, two{}, api.ErrArg)
	g.thrust = make([]api.Span, 13)
	got, e = g.swivel()
	is(t, "Swivel of thirteen", got, e, two{}, api.ErrLong)
	g.thrust, g.failed = make([]api.Span, 12), 1<<12
	got, e = g.swivel()
	is(t, "Swivel of a mask", got, e, two{}, api.ErrArg)
}

// randomGimbals returns arguments of any size.
func randomGimbals(r *rand.Rand) gimbals {
	var g gimbals
	n := r.IntN(13)
	size := api.MostNum >> (1 + r.IntN(50))
	positive := func(most api.Num) api.Span {
		a := around(r, inside(r, raw(0, most)), most>>r.IntN(40))
		return raw(max(0, a.Lo), a.Hi)
	}
	for range n {
		if r.IntN(4) == 0 {
			g.thrust = append(g.thrust, raw(0, inside(r, raw(0, size))))
		} else {
			g.thrust = append(g.thrust, positive(size))
		}
	}
	g.failed = r.IntN(1<<n) & r.IntN(1<<n)
	g.arm = positive(api.One << r.IntN(8))
	g.arm = raw(max(1, g.arm.Lo), max(1, g.arm.Hi))
	g.limit = inside(r, raw(0, api.One<<r.IntN(4)))
	g.want = upTo(r, size)
	return g
}

func TestSwivel(t *testing.T) {
	r := random()
	counts := map[api.Errno]int{}
	limited := 0
	for range 8000 {
		g := randomGimbals(r)
		want, e := g.exact()
		got, f := g.swivel()
		is(t, "Swivel", got, f, want, e)
		counts[e]++
		if e == api.OK && (got[0].Hi == g.limit || got[0].Lo == -g.limit) {
			limited++
		}
		if t.Failed() {
			t.Fatal(g)
		}
	}
	if counts[api.OK] < 2000 || counts[api.ErrRange] < 200 || counts[api.ErrZero] < 200 || limited < 200 {
		t.Errorf("the errors are %v, %d angles are limited", counts, limited)
	}
}

// TestSwivelKeepsItsLimit checks P5.10: an angle is never above the limit or below its negative; if want is not negative, its Hi is not less after failures.
func TestSwivelKeepsItsLimit(t *testing.T) {
	r := random()
	less := 0
	for range 8000 {
		g := randomGimbals(r)
		got, e := g.swivel()
		if e != api.OK {
			continue
		}
		if got[0].Hi > g.limit || got[0].Lo < -g.limit {
			t.Errorf("%v: the angle is %v", g, got[0])
		}
		g.failed |= r.IntN(1 << len(g.thrust))
		after, e := g.swivel()
		if e != api.OK || g.want < 0 {
			continue
		}
		less++
		if after[0].Hi < got[0].Hi {
			t.Errorf("%v: the angle is %v, before the failures %v", g, after[0], got[0])
		}
	}
	if less < 500 {
		t.Errorf("only %d failures", less)
	}
}
