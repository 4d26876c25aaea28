package span_test

// P1.9 (directions).

import (
	"math/big"
	"testing"

	"ullage/api"
	"ullage/span"
)

// exactTurn is Turn in exact arithmetic.
func exactTurn(t api.Span) (c, s api.Span) {
	one := big.NewRat(1, 1)
	cosine := func(n api.Num) *big.Rat {
		square := new(big.Rat).Mul(exact(n), exact(n))
		return new(big.Rat).Quo(new(big.Rat).Sub(one, square), new(big.Rat).Add(one, square))
	}
	sine := func(n api.Num) *big.Rat {
		square := new(big.Rat).Mul(exact(n), exact(n))
		return new(big.Rat).Quo(new(big.Rat).Add(exact(n), exact(n)), square.Add(one, square))
	}
	cosines := []*big.Rat{cosine(t.Lo), cosine(t.Hi)}
	if t.Lo <= 0 && 0 <= t.Hi {
		cosines = append(cosines, one)
	}
	c, _ = rounded(cosines...)
	s, _ = rounded(sine(t.Lo), sine(t.Hi))
	return c, s
}

func TestTurn(t *testing.T) {
	for _, x := range []struct{ t, c, s api.Span }{
		{ints(-1, 1), ints(0, 1), ints(-1, 1)},
		{ints(0, 0), ints(1, 1), ints(0, 0)},
		{ints(1, 1), ints(0, 0), ints(1, 1)},
		{ints(-1, -1), ints(0, 0), ints(-1, -1)},
		{ints(0, 1), ints(0, 1), ints(0, 1)},
		{ints(-1, 0), ints(0, 1), ints(-1, 0)},
		{raw(api.One/2, api.One/2), raw(2576980377, 2576980378), raw(3435973836, 3435973837)},
		{raw(-api.One/2, -api.One/2), raw(2576980377, 2576980378), raw(-3435973837, -3435973836)},
		{raw(-api.One/2, api.One/2), raw(2576980377, api.One), raw(-3435973837, 3435973837)},
		{raw(-api.One/2, api.One), raw(0, api.One), raw(-3435973837, api.One)},
		{raw(-api.One, api.One/2), raw(0, api.One), raw(-api.One, 3435973837)},
		{raw(1, 1), raw(api.One-1, api.One), raw(1, 2)},
		{raw(-1, -1), raw(api.One-1, api.One), raw(-2, -1)},
		{raw(api.One-1, api.One-1), raw(1, 2), raw(api.One-1, api.One)},
	} {
		c, s, e := span.Turn(x.t)
		is(t, "Turn, the first", c, e, x.c, api.OK)
		is(t, "Turn, the second", s, e, x.s, api.OK)
	}
}

func TestTurnErrors(t *testing.T) {
	for _, a := range []api.Span{
		raw(-api.One-1, 0), raw(0, api.One+1), raw(-api.One, api.One+1), raw(-api.One-1, api.One), ints(2, 3), ints(-3, -2), ints(-2, 2),
		raw(api.One+1, api.One+1), raw(-api.One-1, -api.One-1), raw(-api.MostNum, api.MostNum), raw(api.MostNum, api.MostNum),
	} {
		c, s, e := span.Turn(a)
		is(t, "Turn of what is not from -1 to 1", c, e, api.Span{}, api.ErrRange)
		is(t, "Turn of what is not from -1 to 1", s, e, api.Span{}, api.ErrRange)
	}
	for _, a := range badSpans() {
		c, s, e := span.Turn(a)
		is(t, "Turn of a span that is not valid", c, e, api.Span{}, api.ErrArg)
		is(t, "Turn of a span that is not valid", s, e, api.Span{}, api.ErrArg)
	}
}

func TestTurnIsRoundedOut(t *testing.T) {
	r := random()
	all := ints(-1, 1)
	for range 20000 {
		a := randomPart(r, all)
		c, s, e := span.Turn(a)
		wantC, wantS := exactTurn(a)
		is(t, "Turn, the first", c, e, wantC, api.OK)
		is(t, "Turn, the second", s, e, wantS, api.OK)
	}
}
