package span

import "ullage/api"

// Add returns all sums.
func Add(a, b api.Span) (api.Span, api.Errno) {
	if e := checkBoth(a, b); e != api.OK {
		return api.Span{}, e
	}
	low, lowFits := addNumbers(a.Lo, b.Lo)
	high, highFits := addNumbers(a.Hi, b.Hi)
	if !lowFits || !highFits {
		return api.Span{}, api.ErrRange
	}
	return api.Span{Lo: low, Hi: high}, api.OK
}

// Sub returns all differences.
func Sub(a, b api.Span) (api.Span, api.Errno) {
	if e := checkBoth(a, b); e != api.OK {
		return api.Span{}, e
	}
	return Add(a, negated(b))
}

// Neg returns all negative numbers.
func Neg(a api.Span) (api.Span, api.Errno) {
	if e := Check(a); e != api.OK {
		return api.Span{}, e
	}
	return negated(a), api.OK
}

// Scale returns all products with an integer.
func Scale(a api.Span, n int) (api.Span, api.Errno) {
	if e := Check(a); e != api.OK {
		return api.Span{}, e
	}
	factor := api.Num(n)
	return corners(a, api.Span{Lo: factor, Hi: factor}, func(x, y api.Num) (down, up api.Num, fits bool) {
		return round(x, y, 1)
	})
}

// Mul returns all products.
func Mul(a, b api.Span) (api.Span, api.Errno) {
	if e := checkBoth(a, b); e != api.OK {
		return api.Span{}, e
	}
	return corners(a, b, func(x, y api.Num) (down, up api.Num, fits bool) {
		return round(x, y, api.One)
	})
}

// Div returns all quotients.
func Div(a, b api.Span) (api.Span, api.Errno) {
	if e := checkBoth(a, b); e != api.OK {
		return api.Span{}, e
	}
	if In(b, 0) {
		return api.Span{}, api.ErrZero
	}
	return corners(a, b, func(x, y api.Num) (down, up api.Num, fits bool) {
		return round(x, api.One, y)
	})
}

// Square returns all squares.
func Square(a api.Span) (api.Span, api.Errno) {
	sizes, e := Abs(a)
	if e != api.OK {
		return api.Span{}, e
	}
	low, _, lowFits := round(sizes.Lo, sizes.Lo, api.One)
	_, high, highFits := round(sizes.Hi, sizes.Hi, api.One)
	if !lowFits || !highFits {
		return api.Span{}, api.ErrRange
	}
	return api.Span{Lo: low, Hi: high}, api.OK
}

// Root returns the square roots of all numbers that are not negative.
func Root(a api.Span) (api.Span, api.Errno) {
	if e := Check(a); e != api.OK {
		return api.Span{}, e
	}
	if a.Hi < 0 {
		return api.Span{}, api.ErrRange
	}
	low, _ := root(max(a.Lo, 0))
	_, high := root(a.Hi)
	return api.Span{Lo: low, Hi: high}, api.OK
}

// Abs returns all absolute values.
func Abs(a api.Span) (api.Span, api.Errno) {
	if e := Check(a); e != api.OK {
		return api.Span{}, e
	}
	switch {
	case a.Lo >= 0:
		return a, api.OK
	case a.Hi <= 0:
		return negated(a), api.OK
	}
	return api.Span{Lo: 0, Hi: max(-a.Lo, a.Hi)}, api.OK
}

// Most returns the greater ones of all pairs.
func Most(a, b api.Span) (api.Span, api.Errno) {
	if e := checkBoth(a, b); e != api.OK {
		return api.Span{}, e
	}
	return api.Span{Lo: max(a.Lo, b.Lo), Hi: max(a.Hi, b.Hi)}, api.OK
}

// Least returns the lesser ones of all pairs.
func Least(a, b api.Span) (api.Span, api.Errno) {
	if e := checkBoth(a, b); e != api.OK {
		return api.Span{}, e
	}
	return api.Span{Lo: min(a.Lo, b.Lo), Hi: min(a.Hi, b.Hi)}, api.OK
}

// negated returns all negative numbers of a valid span.
func negated(a api.Span) api.Span {
	return api.Span{Lo: -a.Hi, Hi: -a.Lo}
}

// addNumbers returns the sum of two valid numbers, and whether it is one.
func addNumbers(x, y api.Num) (api.Num, bool) {
	if y > 0 && x > api.MostNum-y || y < 0 && x < -api.MostNum-y {
		return 0, false
	}
	return x + y, true
}

// corners returns the span of what an operation makes of the ends of two spans. An operation that rises or falls all along each side, as a product does, is nowhere beyond what it is there.
func corners(a, b api.Span, operation func(x, y api.Num) (down, up api.Num, fits bool)) (api.Span, api.Errno) {
	out := api.Span{Lo: api.MostNum, Hi: -api.MostNum}
	for _, x := range [2]api.Num{a.Lo, a.Hi} {
		for _, y := range [2]api.Num{b.Lo, b.Hi} {
			down, up, fits := operation(x, y)
			if !fits {
				return api.Span{}, api.ErrRange
			}
			out.Lo, out.Hi = min(out.Lo, down), max(out.Hi, up)
		}
	}
	return out, api.OK
}

// root returns the square root of a number that is not negative, rounded down and rounded up.
func root(n api.Num) (down, up api.Num) {
	// The root of n 2^-32 is that of n 2^32, times 2^-32, and below 2^48 times that.
	square := product(uint64(n), uint64(api.One))
	whole := greatest(1<<48, func(r uint64) bool {
		return !product(r, r).above(square)
	})
	down, up = api.Num(whole), api.Num(whole)
	if product(whole, whole) != square {
		up++
	}
	return down, up
}
