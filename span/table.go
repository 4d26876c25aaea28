package span

import "ullage/api"

// CheckTable returns ErrArg unless a table is valid.
func CheckTable(l []api.Point) api.Errno {
	if len(l) < 1 || len(l) > api.MaxTable {
		return api.ErrArg
	}
	for i, p := range l {
		if !isPart(p.At) || !isPart(p.Value.Lo) || !isPart(p.Value.Hi) || Check(p.Value) != api.OK {
			return api.ErrArg
		}
		if i > 0 && p.At <= l[i-1].At {
			return api.ErrArg
		}
	}
	return api.OK
}

// Look returns what the lines of a table have at the places of a span.
func Look(l []api.Point, x api.Span) (api.Span, api.Errno) {
	if CheckTable(l) != api.OK || Check(x) != api.OK {
		return api.Span{}, api.ErrArg
	}
	// Between its bends a line is straight, so it is least, and greatest, at a bend or at an end of x.
	first, last := lookAt(l, x.Lo), lookAt(l, x.Hi)
	out := api.Span{Lo: min(first.Lo, last.Lo), Hi: max(first.Hi, last.Hi)}
	for _, p := range l {
		if In(x, p.At) {
			out = api.Span{Lo: min(out.Lo, p.Value.Lo), Hi: max(out.Hi, p.Value.Hi)}
		}
	}
	return out, api.OK
}

// isPart reports whether a number may be in a table.
func isPart(n api.Num) bool {
	return -api.MaxPart <= n && n <= api.MaxPart
}

// lookAt returns the lower line at a place, rounded down, and the upper one, rounded up.
func lookAt(l []api.Point, at api.Num) api.Span {
	next := 0
	for next < len(l) && l[next].At <= at {
		next++
	}
	switch next {
	case 0:
		return l[0].Value
	case len(l):
		return l[len(l)-1].Value
	}
	before, behind := l[next-1], l[next]
	// What a line rises is not more than 2^62, and a part of it fits.
	along := func(from, to api.Num) (down, up api.Num) {
		down, up, _ = round(to-from, at-before.At, behind.At-before.At)
		return from + down, from + up
	}
	low, _ := along(before.Value.Lo, behind.Value.Lo)
	_, high := along(before.Value.Hi, behind.Value.Hi)
	return api.Span{Lo: low, Hi: high}
}
