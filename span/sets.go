package span

import "ullage/api"

// Hull returns the least span that contains both.
func Hull(a, b api.Span) (api.Span, api.Errno) {
	if e := checkBoth(a, b); e != api.OK {
		return api.Span{}, e
	}
	return api.Span{Lo: min(a.Lo, b.Lo), Hi: max(a.Hi, b.Hi)}, api.OK
}

// Meet returns all numbers that are in both.
func Meet(a, b api.Span) (api.Span, api.Errno) {
	if e := checkBoth(a, b); e != api.OK {
		return api.Span{}, e
	}
	both := api.Span{Lo: max(a.Lo, b.Lo), Hi: min(a.Hi, b.Hi)}
	if both.Lo > both.Hi {
		return api.Span{}, api.ErrNone
	}
	return both, api.OK
}

// Grow returns a span that is wider on both sides.
func Grow(a api.Span, by api.Num) (api.Span, api.Errno) {
	if Check(a) != api.OK || by < 0 {
		return api.Span{}, api.ErrArg
	}
	return Add(a, api.Span{Lo: -by, Hi: by})
}

// Split returns both halves.
func Split(a api.Span) (low, high api.Span, e api.Errno) {
	mid, e := Mid(a)
	if e != api.OK {
		return api.Span{}, api.Span{}, e
	}
	return api.Span{Lo: a.Lo, Hi: mid}, api.Span{Lo: mid, Hi: a.Hi}, api.OK
}

// Mid returns the greatest number that is not above the middle.
func Mid(a api.Span) (api.Num, api.Errno) {
	if e := Check(a); e != api.OK {
		return 0, e
	}
	// The sum of both ends may leave an int64; that of their halves, rounded down, lacks 1 if both are odd.
	return a.Lo>>1 + a.Hi>>1 + a.Lo&a.Hi&1, api.OK
}

// Wide returns the width.
func Wide(a api.Span) (api.Num, api.Errno) {
	if e := Check(a); e != api.OK {
		return 0, e
	}
	width, fits := addNumbers(a.Hi, -a.Lo)
	if !fits {
		return 0, api.ErrRange
	}
	return width, api.OK
}

// In reports whether a span contains a number.
func In(a api.Span, n api.Num) bool {
	return Check(a) == api.OK && a.Lo <= n && n <= a.Hi
}

// Within reports whether b contains a.
func Within(a, b api.Span) bool {
	return checkBoth(a, b) == api.OK && b.Lo <= a.Lo && a.Hi <= b.Hi
}

// Sign returns the sign of all numbers, if they have the same one.
func Sign(a api.Span) int {
	return Order(a, api.Span{})
}

// Order returns how all numbers of a are to those of b.
func Order(a, b api.Span) int {
	switch {
	case checkBoth(a, b) != api.OK:
		return 0
	case a.Hi < b.Lo:
		return -1
	case a.Lo > b.Hi:
		return 1
	}
	return 0
}
