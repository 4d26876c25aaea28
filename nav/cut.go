package nav

import (
	"ullage/api"
	"ullage/span"
)

// Cut cuts a state by a measurement.
func Cut(s api.State, m api.Radio) (api.State, api.Errno) {
	if e := checkHeard(s, m); e != api.OK {
		return api.State{}, e
	}
	return cut(s, m)
}

// cut cuts a valid state by a valid measurement.
func cut(s api.State, m api.Radio) (api.State, api.Errno) {
	e := upToError(func() {
		narrow(&s, m)
	})
	if e != api.OK {
		return api.State{}, e
	}
	return s, api.OK
}

// narrow cuts a state in place. What an error leaves of it means nothing.
func narrow(s *api.State, m api.Radio) {
	switch k := kindOf(m).(type) {
	case distance:
		cutByDistance(&s.P, k.from, m.Value)
	case departure:
		d := offset(s.P, k.from)
		cutBySum(&s.V, d, must(span.Mul(m.Value, norm(d))))
	case placeAlong:
		cutBySum(&s.P, k.dir, m.Value)
	case speedAlong:
		cutBySum(&s.V, k.dir, m.Value)
	}
}

// cutBySum cuts three spans whose sum, each times a factor, is in a span.
func cutBySum(x *api.Box, factors api.Box, sum api.Span) {
	for i, o := range others {
		rest := must(span.Add(product(x, factors, o[0]), product(x, factors, o[1])))
		left := must(span.Sub(sum, rest))
		// A factor that may be 0 says nothing of what it belongs to, and a quotient that is too great does not narrow it.
		if quotient, e := span.Div(left, factors[i]); e == api.OK {
			x[i] = must(span.Meet(x[i], quotient))
		}
	}
	must(span.Meet(dot(factors, *x), sum))
}

// product returns one of three spans, times its factor.
func product(x *api.Box, factors api.Box, i int) api.Span {
	return must(span.Mul(factors[i], x[i]))
}

// cutByDistance cuts a place whose distance from another one is in a span.
func cutByDistance(place *api.Box, from api.Box, value api.Span) {
	value = must(span.Meet(value, api.Span{Lo: 0, Hi: api.MostNum}))
	d := offset(*place, from)
	var squares api.Box
	for i := range d {
		squares[i] = must(span.Square(d[i]))
	}
	square := must(span.Square(value))
	for i, o := range others {
		rest := must(span.Add(squares[o[0]], squares[o[1]]))
		d[i] = onEitherSide(d[i], rootOf(must(span.Sub(square, rest))))
		place[i] = must(span.Meet(place[i], must(span.Add(d[i], from[i]))))
		squares[i] = must(span.Square(d[i]))
	}
}

// rootOf returns the square roots of a span. Squares that are all below 0 are those of nothing.
func rootOf(square api.Span) api.Span {
	if square.Hi < 0 {
		panic(api.ErrNone)
	}
	return must(span.Root(square))
}

// onEitherSide returns the numbers of a span whose sizes are in another one, as far as a span can tell.
func onEitherSide(a, size api.Span) api.Span {
	above, noneAbove := span.Meet(a, size)
	below, noneBelow := span.Meet(a, must(span.Neg(size)))
	switch {
	case noneBelow != api.OK:
		return must(above, noneAbove)
	case noneAbove != api.OK:
		return below
	}
	return must(span.Hull(above, below))
}
