package steer_test

// P5.5 (guidance), P5.6 (aim), and what follows of them.

import (
	"math/big"
	"math/rand/v2"
	"testing"

	"ullage/api"
	"ullage/steer"
)

// law returns Law's results as two.
func law(h, v, to, at api.Span, time api.Num) (two, api.Errno) {
	a, b, e := steer.Law(h, v, to, at, time)
	return two{a, b}, e
}

// due returns Due's results as two.
func due(h, v, c0, c1 api.Span, time api.Num) (two, api.Errno) {
	a, b, e := steer.Due(h, v, c0, c1, time)
	return two{a, b}, e
}

// asked is the arguments of Law or of Due.
type asked struct {
	a, b, c, d api.Span
	time       api.Num
}

func TestLawByHand(t *testing.T) {
	zero, one, much := ints(0, 0), ints(1, 1), at(api.MostNum)
	for _, c := range []struct {
		asked
		want two
	}{
		{asked{zero, zero, ints(6, 6), zero, api.One}, two{ints(36, 36), ints(-72, -72)}},
		{asked{zero, zero, ints(8, 8), zero, 2 * api.One}, two{ints(12, 12), ints(-12, -12)}},
		{asked{ints(2, 2), ints(3, 3), ints(20, 20), ints(5, 5), 2 * api.One}, two{ints(16, 16), ints(-15, -15)}},
		{asked{ints(0, 1), zero, ints(8, 8), zero, api.One}, two{ints(42, 48), ints(-96, -84)}},
		{asked{zero, ints(0, 1), zero, zero, api.One}, two{ints(-6, 2), ints(-6, 12)}},
		{asked{zero, zero, ints(0, 1), zero, api.One}, two{ints(0, 6), ints(-12, 0)}},
		{asked{zero, zero, zero, ints(0, 1), api.One}, two{ints(-2, 0), ints(0, 6)}},
		{asked{zero, zero, at(1), zero, 1 << 16}, two{raw(6<<32, 6<<32), raw(-12<<48, -12<<48)}},
	} {
		got, e := law(c.a, c.b, c.c, c.d, c.time)
		is(t, "Law", got, e, c.want, api.OK)
	}
	for _, c := range []asked{
		{ints(-2, -2), zero, much, zero, 3 * api.One},
		{ints(-6, -6), ints(2, 2), much, zero, 3 * api.One},
		{zero, ints(2, 2), zero, zero, api.MostNum},
		{zero, at(-1), much, zero, 3 * api.One},
		{zero, at(-1), zero, much, 3 * api.One},
		{zero, zero, one, zero, 1},
		{zero, zero, at(1 << 30), zero, 1},
		{zero, zero, zero, one, 1},
		{zero, zero, much, zero, api.One * 12 / 5},
		{zero, zero, zero, much, api.One * 3 / 2},
		{zero, zero, zero, much, api.One * 12 / 5},
		{zero, zero, zero, at(1 << 30), 1},
		{zero, zero, at(1 << 40), zero, 1 << 20},
	} {
		got, e := law(c.a, c.b, c.c, c.d, c.time)
		is(t, "Law of much", got, e, two{}, api.ErrRange)
	}
}

func TestDueByHand(t *testing.T) {
	zero, one, much := ints(0, 0), ints(1, 1), at(api.MostNum)
	third := api.One / 3
	for _, c := range []struct {
		asked
		want two
	}{
		{asked{zero, zero, ints(36, 36), ints(-72, -72), api.One}, two{ints(6, 6), zero}},
		{asked{ints(2, 2), ints(3, 3), ints(16, 16), ints(-15, -15), 2 * api.One}, two{ints(20, 20), ints(5, 5)}},
		{asked{ints(0, 1), zero, zero, zero, 3 * api.One}, two{ints(0, 1), zero}},
		{asked{zero, ints(0, 1), zero, zero, 3 * api.One}, two{ints(0, 3), ints(0, 1)}},
		{asked{zero, zero, ints(0, 2), zero, 3 * api.One}, two{ints(0, 9), ints(0, 6)}},
		{asked{zero, zero, zero, ints(0, 2), 3 * api.One}, two{ints(0, 9), ints(0, 9)}},
		{asked{zero, zero, zero, ints(-2, 2), api.One}, two{raw(-third-1, third+1), ints(-1, 1)}},
		{asked{zero, zero, zero, zero, 46340 * api.One}, two{}},
		{asked{zero, much, zero, zero, api.One}, two{much, much}},
		{asked{much, ints(-1, -1), one, zero, api.One}, two{at(api.MostNum - api.One/2), zero}},
	} {
		got, e := due(c.a, c.b, c.c, c.d, c.time)
		is(t, "Due", got, e, c.want, api.OK)
	}
	for _, c := range []asked{
		{zero, zero, zero, zero, 46341 * api.One},
		{zero, much, zero, zero, 2 * api.One},
		{one, much, zero, zero, api.One},
		{much, ints(-1, -1), ints(2, 2), one, api.One},
		{zero, zero, much, zero, 2 * api.One},
		{zero, zero, zero, much, 2 * api.One},
		{zero, zero, zero, at(api.MostNum / 6), 2 * api.One},
		{zero, much, one, zero, api.One / 4},
		{zero, at(api.MostNum - api.One/4), one, one, api.One / 2},
		{zero, zero, at(api.MostNum / 3), zero, 2 * api.One},
	} {
		got, e := due(c.a, c.b, c.c, c.d, c.time)
		is(t, "Due of much", got, e, two{}, api.ErrRange)
	}
}

func TestLawAndDueErrors(t *testing.T) {
	much := at(api.MostNum)
	for _, time := range []api.Num{0, -1, -api.One, -api.MostNum, none} {
		got, e := law(points(0)[0], much, much, much, time)
		is(t, "Law in no time", got, e, two{}, api.ErrArg)
		got, e = due(points(0)[0], much, much, much, time)
		is(t, "Due in no time", got, e, two{}, api.ErrArg)
	}
	for _, bad := range badSpans() {
		for i := range 4 {
			for _, other := range []api.Span{ints(1, 1), much} {
				l := [4]api.Span{other, other, other, other}
				l[i] = bad
				got, e := law(l[0], l[1], l[2], l[3], 3*api.One)
				is(t, "Law of what is not valid", got, e, two{}, api.ErrArg)
				got, e = due(l[0], l[1], l[2], l[3], 3*api.One)
				is(t, "Due of what is not valid", got, e, two{}, api.ErrArg)
			}
		}
	}
}

// exactLaw evaluates the formulas of Law.
func exactLaw(h, v, to, end api.Span, time api.Num) (two, api.Errno) {
	var s sheet
	one := at(time)
	missing := s.minus(s.minus(to, h), s.times(v, one))
	faster := s.minus(end, v)
	y := s.over(s.over(missing, one), one)
	z := s.over(faster, one)
	c0 := s.minus(s.scaled(y, 6), s.scaled(z, 2))
	c1 := s.minus(s.scaled(s.over(z, one), 6), s.scaled(s.over(y, one), 12))
	return s.both(c0, c1)
}

// exactDue evaluates the formulas of Due.
func exactDue(h, v, c0, c1 api.Span, time api.Num) (two, api.Errno) {
	var s sheet
	one, half, sixth := at(time), ints(2, 2), ints(6, 6)
	square := s.times(one, one)
	place := s.plus(h, s.times(v, one))
	place = s.plus(place, s.over(s.times(c0, square), half))
	place = s.plus(place, s.over(s.times(s.times(c1, square), one), sixth))
	speed := s.plus(v, s.times(c0, one))
	speed = s.plus(speed, s.over(s.times(c1, square), half))
	return s.both(place, speed)
}

// randomAsked returns arguments of any size.
func randomAsked(r *rand.Rand) asked {
	var l [4]api.Span
	size := api.MostNum >> r.IntN(50)
	for i := range l {
		most := size >> r.IntN(6)
		l[i] = around(r, upTo(r, most/2), most/2)
	}
	return asked{l[0], l[1], l[2], l[3], 1 + api.Num(r.Int64N(int64(api.MostNum)))>>(12+r.IntN(45))}
}

func TestLawAndDue(t *testing.T) {
	r := random()
	var laws, dues [5]int
	for range 8000 {
		c := randomAsked(r)
		want, e := exactLaw(c.a, c.b, c.c, c.d, c.time)
		got, f := law(c.a, c.b, c.c, c.d, c.time)
		is(t, "Law", got, f, want, e)
		laws[e]++
		want, e = exactDue(c.a, c.b, c.c, c.d, c.time)
		got, f = due(c.a, c.b, c.c, c.d, c.time)
		is(t, "Due", got, f, want, e)
		dues[e]++
		if t.Failed() {
			t.Fatal(c)
		}
	}
	for _, counts := range [][5]int{laws, dues} {
		if counts[api.OK] < 1000 || counts[api.ErrRange] < 1000 {
			t.Errorf("the errors are %v", counts)
		}
	}
}

// TestDueOfLaw checks P5.10: Due of what Law returns contains to and at.
func TestDueOfLaw(t *testing.T) {
	r := random()
	for found := 0; found < 2000; {
		c := randomAsked(r)
		l, e := law(c.a, c.b, c.c, c.d, c.time)
		if e != api.OK {
			continue
		}
		d, e := due(c.a, c.b, l[0], l[1], c.time)
		if e != api.OK {
			continue
		}
		found++
		if d[0].Lo > c.c.Lo || d[0].Hi < c.c.Hi || d[1].Lo > c.d.Lo || d[1].Hi < c.d.Hi {
			t.Errorf("%v: due are %v", c, d)
		}
	}
}

// thrown is the arguments of Lift, but for the direction.
type thrown struct {
	v, push, pull api.Span
	time          api.Num
}

// lift calls Lift.
func (c thrown) lift(t api.Span) (api.Span, api.Errno) {
	return steer.Lift(c.v, c.push, c.pull, c.time, t)
}

// aim calls Aim.
func (c thrown) aim(want api.Num, rounds int) (aimed, api.Errno) {
	t, used, e := steer.Aim(c.v, c.push, c.pull, c.time, want, rounds)
	return aimed{t, used}, e
}

// aimed is what Aim returns.
type aimed struct {
	t    api.Span
	used int
}

// exact evaluates the formula of Lift.
func (c thrown) exact(t api.Span) (api.Span, api.Errno) {
	var s sheet
	sine := s.sine(t)
	return s.one(s.plus(c.v, s.times(s.minus(s.times(c.push, sine), c.pull), at(c.time))))
}

func TestLiftByHand(t *testing.T) {
	zero, one, much := ints(0, 0), ints(1, 1), at(api.MostNum)
	for _, c := range []struct {
		thrown
		t, want api.Span
	}{
		{thrown{zero, one, zero, api.One}, ints(-1, 1), ints(-1, 1)},
		{thrown{zero, one, zero, api.One}, ints(0, 0), zero},
		{thrown{ints(7, 7), ints(5, 5), zero, api.One}, at(api.One / 2), raw(11*api.One-4, 11*api.One+1)},
		{thrown{ints(1, 2), ints(3, 4), ints(1, 1), 2 * api.One}, ints(1, 1), ints(5, 8)},
		{thrown{ints(1, 2), ints(3, 4), ints(1, 3), 2 * api.One}, ints(-1, -1), ints(-13, -6)},
		{thrown{ints(1, 2), ints(0, 0), ints(-3, 1), 2 * api.One}, ints(-1, 1), ints(-1, 8)},
		{thrown{ints(1, 2), ints(3, 4), ints(1, 3), 0}, ints(-1, 1), ints(1, 2)},
		{thrown{zero, much, zero, 1}, ints(-1, 1), raw(-1<<31, 1<<31)},
	} {
		got, e := c.lift(c.t)
		is(t, "Lift", got, e, c.want, api.OK)
	}
	for _, c := range []struct {
		thrown
		t api.Span
		e api.Errno
	}{
		{thrown{zero, one, zero, -1}, one, api.ErrArg},
		{thrown{zero, one, zero, none}, one, api.ErrArg},
		{thrown{zero, one, zero, -api.MostNum}, one, api.ErrArg},
		{thrown{zero, raw(-1, api.One), zero, api.One}, one, api.ErrArg},
		{thrown{zero, raw(-1, -1), zero, api.One}, one, api.ErrArg},
		{thrown{zero, raw(-1, 0), zero, api.One}, ints(2, 2), api.ErrArg},
		{thrown{zero, one, zero, -1}, ints(2, 2), api.ErrArg},
		{thrown{zero, much, ints(-1, -1), -1}, one, api.ErrArg},
		{thrown{zero, one, zero, api.One}, raw(0, api.One+1), api.ErrRange},
		{thrown{zero, one, zero, api.One}, raw(-api.One-1, 0), api.ErrRange},
		{thrown{zero, one, zero, api.One}, ints(2, 2), api.ErrRange},
		{thrown{zero, much, ints(-1, -1), api.One}, one, api.ErrRange},
		{thrown{zero, much, zero, 2 * api.One}, one, api.ErrRange},
		{thrown{one, much, zero, api.One}, one, api.ErrRange},
		{thrown{ints(-1, -1), much, zero, api.One}, ints(-1, -1), api.ErrRange},
	} {
		got, e := c.lift(c.t)
		is(t, "Lift", got, e, api.Span{}, c.e)
	}
	for _, bad := range badSpans() {
		for _, end := range []api.Span{one, ints(2, 2), bad} {
			got, e := thrown{bad, much, ints(-1, -1), api.One}.lift(end)
			is(t, "Lift of a speed", got, e, api.Span{}, api.ErrArg)
			got, e = thrown{much, bad, much, api.One}.lift(end)
			is(t, "Lift of a push", got, e, api.Span{}, api.ErrArg)
			got, e = thrown{much, much, bad, api.One}.lift(end)
			is(t, "Lift of a pull", got, e, api.Span{}, api.ErrArg)
		}
		got, e := thrown{much, much, ints(-1, -1), api.One}.lift(bad)
		is(t, "Lift of a direction", got, e, api.Span{}, api.ErrArg)
	}
}

// randomThrown returns arguments of any size.
func randomThrown(r *rand.Rand) thrown {
	size := api.MostNum >> r.IntN(50)
	span := func() api.Span {
		most := size >> r.IntN(6)
		return around(r, upTo(r, most/2), most>>(1+r.IntN(33)))
	}
	push := span()
	if push.Lo < 0 {
		push = raw(max(0, -push.Hi), -push.Lo)
	}
	return thrown{span(), push, span(), api.Num(r.Int64N(int64(api.MostNum))) >> (12 + r.IntN(45))}
}

func TestLift(t *testing.T) {
	r := random()
	counts := [5]int{}
	for range 8000 {
		c := randomThrown(r)
		place := within(r, ints(-1, 1))
		if r.IntN(8) == 0 {
			place = within(r, ints(-2, 2))
		}
		want, e := c.exact(place)
		got, f := c.lift(place)
		is(t, "Lift", got, f, want, e)
		counts[e]++
	}
	if counts[api.OK] < 1000 || counts[api.ErrRange] < 1000 {
		t.Errorf("the errors are %v", counts)
	}
}

func TestAimByHand(t *testing.T) {
	zero, one, much := ints(0, 0), ints(1, 1), at(api.MostNum)
	simple, strong := thrown{zero, one, zero, api.One}, thrown{zero, ints(4, 4), zero, api.One}
	for _, c := range []struct {
		thrown
		want   api.Num
		rounds int
		aimed  aimed
		e      api.Errno
	}{
		{simple, 0, 5, aimed{ints(-1, 1), 1}, api.OK},
		{simple, 0, 1, aimed{ints(-1, 1), 1}, api.OK},
		{simple, 0, 0, aimed{ints(-1, 1), 0}, api.OK},
		{simple, api.One / 2, 0, aimed{ints(-1, 1), 0}, api.OK},
		{simple, api.One / 2, 1, aimed{ints(0, 1), 1}, api.OK},
		{simple, -api.One / 2, 1, aimed{ints(-1, 0), 1}, api.OK},
		{simple, api.One * 9 / 10, 3, aimed{raw(api.One/2, api.One*3/4), 3}, api.OK},
		{simple, -api.One * 9 / 10, 3, aimed{raw(-api.One*3/4, -api.One/2), 3}, api.OK},
		{simple, 1, 40, aimed{raw(0, 2), 33}, api.OK},
		{simple, 1, 32, aimed{raw(0, 2), 32}, api.OK},
		{simple, 1, 31, aimed{raw(0, 4), 31}, api.OK},
		{simple, -1, 40, aimed{raw(-2, 0), 33}, api.OK},
		// A direction of 1 lifts to more than 3, so that nothing is left but what is between 0 and 1.
		{strong, 3, 40, aimed{raw(0, 1), 33}, api.OK},
		{strong, 3, 34, aimed{raw(0, 1), 33}, api.OK},
		{strong, 3, 33, aimed{raw(0, 1), 33}, api.OK},
		{strong, 3, 32, aimed{raw(0, 2), 32}, api.OK},
		{strong, -3, 40, aimed{raw(-1, 0), 33}, api.OK},
		{strong, -3, 32, aimed{raw(-2, 0), 32}, api.OK},
		{simple, api.One, 2, aimed{raw(api.One/2, api.One), 2}, api.OK},
		{simple, -api.One, 2, aimed{raw(-api.One, -api.One/2), 2}, api.OK},
		// None, though only by the least part.
		{simple, api.One + 1, 5, aimed{}, api.ErrNone},
		{simple, -api.One - 1, 5, aimed{}, api.ErrNone},
		{simple, api.One + 1, 0, aimed{}, api.ErrNone},
		{simple, 2 * api.One, 5, aimed{}, api.ErrNone},
		{simple, -2 * api.One, 5, aimed{}, api.ErrNone},
		{thrown{raw(0, 1), one, zero, api.One}, api.One + 1, 0, aimed{ints(-1, 1), 0}, api.OK},
		{thrown{raw(-1, 0), one, zero, api.One}, -api.One - 1, 0, aimed{ints(-1, 1), 0}, api.OK},
		{thrown{raw(-1, 0), one, zero, api.One}, api.One + 1, 0, aimed{}, api.ErrNone},
		// A speed that is not known well ends it soon.
		{thrown{raw(-api.One/2, api.One/2), one, zero, api.One}, api.One / 4, 40, aimed{ints(-1, 1), 1}, api.OK},
		{thrown{raw(-api.One/2, api.One/2), one, zero, api.One}, api.One * 3 / 4, 40, aimed{ints(0, 1), 2}, api.OK},
		{thrown{zero, one, zero, 0}, 0, 40, aimed{ints(-1, 1), 1}, api.OK},
		{thrown{zero, one, zero, 0}, 1, 40, aimed{}, api.ErrNone},
		{thrown{zero, zero, one, api.One}, -api.One, 40, aimed{ints(-1, 1), 1}, api.OK},
		// Arguments.
		{simple, 0, -1, aimed{}, api.ErrArg},
		{simple, 0, 41, aimed{}, api.ErrArg},
		{simple, 0, 40, aimed{ints(-1, 1), 1}, api.OK},
		{simple, none, 5, aimed{}, api.ErrArg},
		{simple, api.MostNum, 5, aimed{}, api.ErrNone},
		{simple, -api.MostNum, 5, aimed{}, api.ErrNone},
		{thrown{zero, one, zero, -1}, 0, 5, aimed{}, api.ErrArg},
		{thrown{zero, one, zero, none}, 0, 5, aimed{}, api.ErrArg},
		{thrown{zero, raw(-1, 1), zero, api.One}, 0, 5, aimed{}, api.ErrArg},
		// Lift at an end does not fit.
		{thrown{one, much, zero, api.One}, 0, 5, aimed{}, api.ErrRange},
		{thrown{ints(-1, -1), much, zero, api.One}, 0, 5, aimed{}, api.ErrRange},
		{thrown{ints(-1, -1), much, zero, api.One}, api.MostNum, 5, aimed{}, api.ErrRange},
		{thrown{one, much, zero, api.One}, none, 5, aimed{}, api.ErrArg},
		{thrown{one, much, zero, api.One}, 0, 41, aimed{}, api.ErrArg},
		{thrown{zero, much, zero, api.One}, api.MostNum, 2, aimed{raw(api.One/2, api.One), 2}, api.OK},
	} {
		got, e := c.aim(c.want, c.rounds)
		is(t, "Aim", got, e, c.aimed, c.e)
		if t.Failed() {
			t.Fatal(c)
		}
	}
	for _, rounds := range []int{-1 << 63, -2, 42, 1<<63 - 1} {
		got, e := simple.aim(0, rounds)
		is(t, "Aim in rounds out of range", got, e, aimed{}, api.ErrArg)
	}
	for _, bad := range badSpans() {
		got, e := thrown{bad, one, zero, api.One}.aim(0, 5)
		is(t, "Aim of a speed", got, e, aimed{}, api.ErrArg)
		got, e = thrown{zero, bad, zero, api.One}.aim(0, 5)
		is(t, "Aim of a push", got, e, aimed{}, api.ErrArg)
		got, e = thrown{zero, one, bad, api.One}.aim(0, 5)
		is(t, "Aim of a pull", got, e, aimed{}, api.ErrArg)
	}
}

// exactAim goes round by round.
func (c thrown) exactAim(want api.Num, rounds int) (aimed, api.Errno) {
	high, e := c.exact(ints(1, 1))
	low, f := c.exact(ints(-1, -1))
	switch {
	case e != api.OK:
		return aimed{}, e
	case f != api.OK:
		return aimed{}, f
	case high.Hi < want || low.Lo > want:
		return aimed{}, api.ErrNone
	}
	from, to := -api.One, api.One
	for round := 1; round <= rounds; round++ {
		if to-from < 2 {
			return aimed{raw(from, to), round - 1}, api.OK
		}
		mid := (from + to) >> 1
		speed, _ := c.exact(at(mid))
		if speed.Lo <= want && want <= speed.Hi {
			return aimed{raw(from, to), round}, api.OK
		}
		if speed.Hi < want {
			from = mid
		} else {
			to = mid
		}
	}
	return aimed{raw(from, to), rounds}, api.OK
}

// randomWant returns a speed that something thrown may have, and often has.
func randomWant(r *rand.Rand, c thrown) api.Num {
	high, _ := c.exact(ints(1, 1))
	low, _ := c.exact(ints(-1, -1))
	if r.IntN(8) == 0 || low.Lo > high.Hi {
		return upTo(r, api.MostNum)
	}
	return inside(r, raw(low.Lo, high.Hi))
}

func TestAim(t *testing.T) {
	r := random()
	counts := map[api.Errno]int{}
	deep := 0
	for range 4000 {
		c := randomThrown(r)
		want, rounds := randomWant(r, c), r.IntN(41)
		result, e := c.exactAim(want, rounds)
		got, f := c.aim(want, rounds)
		is(t, "Aim", got, f, result, e)
		counts[e]++
		if got.used > 20 {
			deep++
		}
		if t.Failed() {
			t.Fatal(c, want, rounds)
		}
	}
	if counts[api.OK] < 500 || counts[api.ErrRange] < 100 || counts[api.ErrNone] < 50 || deep < 50 {
		t.Errorf("the errors are %v, %d have more than 20 rounds", counts, deep)
	}
}

// fastest returns the greatest speed, or the least one, that a direction can lead to.
func (c thrown) fastest(t api.Num, high bool) *big.Rat {
	v, push, pull := c.v.Lo, c.push.Lo, c.pull.Hi
	if high {
		v, pull = c.v.Hi, c.pull.Lo
	}
	if high == (t > 0) {
		push = c.push.Hi
	}
	speed := sine(exact(t))
	speed.Mul(speed, exact(push))
	speed.Sub(speed, exact(pull))
	speed.Mul(speed, exact(c.time))
	return speed.Add(speed, exact(v))
}

// TestAimLeavesNone checks P5.10: no direction below what Aim returns lifts to want, and none above.
func TestAimLeavesNone(t *testing.T) {
	r := random()
	checked, gone := 0, 0
	for range 4000 {
		c := randomThrown(r)
		want := randomWant(r, c)
		got, e := c.aim(want, r.IntN(41))
		if e == api.ErrNone {
			gone++
			if c.fastest(api.One, true).Cmp(exact(want)) >= 0 && c.fastest(-api.One, false).Cmp(exact(want)) <= 0 {
				t.Errorf("%v can be lifted to %d", c, want)
			}
		}
		if e != api.OK {
			continue
		}
		for range 4 {
			if from := got.t.Lo; from > -api.One {
				checked++
				x := inside(r, raw(-api.One, from-1))
				if c.fastest(x, true).Cmp(exact(want)) >= 0 {
					t.Errorf("%v is lifted to %d at %d, not in %v", c, want, x, got)
				}
			}
			if to := got.t.Hi; to < api.One {
				checked++
				x := inside(r, raw(to+1, api.One))
				if c.fastest(x, false).Cmp(exact(want)) <= 0 {
					t.Errorf("%v is lifted to %d at %d, not in %v", c, want, x, got)
				}
			}
		}
	}
	if checked < 2000 || gone < 50 {
		t.Errorf("only %d directions, and %d speeds out of reach", checked, gone)
	}
}
