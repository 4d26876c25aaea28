// Package span has numbers with 32 bits behind the point, and spans of them, whose operations round outwards: see shared/doc/01-span.md.
package span

import "ullage/api"

// Check returns ErrArg unless a is valid.
func Check(a api.Span) api.Errno {
	if !valid(a.Lo) || !valid(a.Hi) || a.Lo > a.Hi {
		return api.ErrArg
	}
	return api.OK
}

// Point returns the point n.
func Point(n api.Num) (api.Span, api.Errno) {
	if !valid(n) {
		return api.Span{}, api.ErrArg
	}
	return api.Span{Lo: n, Hi: n}, api.OK
}

// Of returns the point of an integer.
func Of(n int) (api.Span, api.Errno) {
	return quotient(api.Num(n), api.One, 1)
}

// Ratio returns the quotient of two integers, rounded out.
func Ratio(a, b int) (api.Span, api.Errno) {
	if b == 0 {
		return api.Span{}, api.ErrZero
	}
	return quotient(api.Num(a), api.One, api.Num(b))
}

// valid reports whether n is a number, which the least int64 is not.
func valid(n api.Num) bool {
	return n >= -api.MostNum
}

// checkBoth returns ErrArg unless both spans are valid.
func checkBoth(a, b api.Span) api.Errno {
	if e := Check(a); e != api.OK {
		return e
	}
	return Check(b)
}
