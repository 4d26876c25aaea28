package steer

import (
	"iter"

	"ullage/api"
	"ullage/span"
)

// Routh returns whether all polynomials are stable, or none is.
func Routh(p []api.Span) (int, api.Errno) {
	if !isPolynomial(p) {
		return 0, api.ErrArg
	}
	return routh(p), api.OK
}

// Corners returns the four corners of a polynomial.
func Corners(p []api.Span) ([4][]api.Span, api.Errno) {
	if !isPolynomial(p) {
		return [4][]api.Span{}, api.ErrArg
	}
	return corners(p), api.OK
}

// Robust returns whether all polynomials are stable, or one is not.
func Robust(p []api.Span) (int, api.Errno) {
	if !isPolynomial(p) {
		return 0, api.ErrArg
	}
	worst := above
	for _, c := range corners(p) {
		worst = min(worst, routh(c))
	}
	return worst, api.OK
}

// Margin returns how far the gain of a loop may be from 1.
func Margin(p, q []api.Span, most int) (int, api.Errno) {
	if !isPolynomial(p) || !isPolynomial(q) || most < 0 || most > api.MaxEdge || len(q) > len(p) {
		return 0, api.ErrArg
	}
	for m := range most + 1 {
		by := api.Num(m) * (api.One / 64)
		closed, e := closedLoop(p, q, api.Span{Lo: api.One - by, Hi: api.One + by})
		if e != api.OK {
			return m - 1, api.OK
		}
		if is, _ := Robust(closed); is != above {
			return m - 1, api.OK
		}
	}
	return most, api.OK
}

// isPolynomial reports whether p is valid.
func isPolynomial(p []api.Span) bool {
	return len(p) >= 2 && len(p) <= api.MaxDegree+1 && areSpans(p...) && span.Sign(p[0]) == above
}

// routh returns above if all rows begin with numbers above 0, below if one that can be made begins with numbers below 0, open if neither.
func routh(p []api.Span) int {
	made := 0
	for row := range rows(p) {
		if sign := span.Sign(row[0]); sign != above {
			return sign
		}
		made++
	}
	if made < len(p) {
		return open
	}
	return above
}

// rows returns the rows of Routh's array, up to the last one before an operation that has an error: behind a row that begins with 0 that is a division.
func rows(p []api.Span) iter.Seq[[]api.Span] {
	return func(yield func([]api.Span) bool) {
		var last, row []api.Span
		for i, a := range p {
			if i%2 == 0 {
				last = append(last, a)
			} else {
				row = append(row, a)
			}
		}
		if !yield(last) {
			return
		}
		for range len(p) - 1 {
			if !yield(row) {
				return
			}
			next, e := nextRow(last, row)
			if e != api.OK {
				return
			}
			last, row = row, next
		}
	}
}

// nextRow returns the row behind two others.
func nextRow(last, row []api.Span) ([]api.Span, api.Errno) {
	var f formula
	var next []api.Span
	for j := 1; j < len(last); j++ {
		cross := f.sub(f.mul(row[0], element(last, j)), f.mul(last[0], element(row, j)))
		next = append(next, f.div(cross, row[0]))
	}
	return next, f.e
}

// element returns an element of a row, or 0 where the row has no more of them.
func element(row []api.Span, j int) api.Span {
	if j < len(row) {
		return row[j]
	}
	return api.Span{}
}

// corners returns the four corners of a polynomial.
func corners(p []api.Span) [4][]api.Span {
	// Which of the ends a corner has, by the power, modulo 4.
	ends := [4]string{"LLHH", "HHLL", "LHHL", "HLLH"}
	var l [4][]api.Span
	for i, end := range ends {
		for j, a := range p {
			power := len(p) - 1 - j
			if end[power%4] == 'L' {
				l[i] = append(l[i], point(a.Lo))
			} else {
				l[i] = append(l[i], point(a.Hi))
			}
		}
	}
	return l
}

// closedLoop returns p + k q.
func closedLoop(p, q []api.Span, k api.Span) ([]api.Span, api.Errno) {
	var f formula
	more := len(p) - len(q)
	var sum []api.Span
	for i, a := range p {
		if i >= more {
			a = f.add(a, f.mul(k, q[i-more]))
		}
		sum = append(sum, a)
	}
	return sum, f.e
}
