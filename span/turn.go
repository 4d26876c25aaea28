package span

import "ullage/api"

// Turn returns the directions of half angles, by their tangents: the cosines and the sines.
func Turn(t api.Span) (c, s api.Span, e api.Errno) {
	if e := Check(t); e != api.OK {
		return api.Span{}, api.Span{}, e
	}
	if !Within(t, api.Span{Lo: -api.One, Hi: api.One}) {
		return api.Span{}, api.Span{}, api.ErrRange
	}
	// A cosine falls with the size of the tangent; a sine rises with the tangent, from -1 to 1.
	sizes, _ := Abs(t)
	c.Lo, _ = cosine(sizes.Hi)
	_, c.Hi = cosine(sizes.Lo)
	s.Lo, _ = sine(t.Lo)
	_, s.Hi = sine(t.Hi)
	return c, s, api.OK
}

// cosine returns (1 - t²) / (1 + t²), for a t from 0 to 1, rounded down and rounded up.
func cosine(t api.Num) (down, up api.Num) {
	one, square := wide{high: 1}, product(uint64(t), uint64(t))
	return share(one.minus(square).times(uint64(api.One)), one.plus(square))
}

// sine returns 2 t / (1 + t²), for a t from -1 to 1, rounded down and rounded up.
func sine(t api.Num) (down, up api.Num) {
	one, square := wide{high: 1}, product(size(t), size(t))
	down, up = share(wide{high: 2 * size(t)}, one.plus(square))
	if t < 0 {
		down, up = -up, -down
	}
	return down, up
}

// share returns a / b, which is at most 2^32, rounded down and rounded up; b is at most 2^65.
func share(a, b wide) (down, up api.Num) {
	whole := greatest(uint64(api.One), func(n uint64) bool {
		return !b.times(n).above(a)
	})
	down, up = api.Num(whole), api.Num(whole)
	if b.times(whole) != a {
		up++
	}
	return down, up
}
