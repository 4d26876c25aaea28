package span

import (
	"iter"
	"slices"

	"ullage/api"
)

// Sum returns the sum of all.
func Sum(l []api.Span) (api.Span, api.Errno) {
	if e := checkLists(l); e != api.OK {
		return api.Span{}, e
	}
	return fold(slices.Values(l), Add)
}

// Dot returns the sum of the products.
func Dot(a, b []api.Span) (api.Span, api.Errno) {
	if e := checkLists(a, b); e != api.OK {
		return api.Span{}, e
	}
	if len(a) != len(b) {
		return api.Span{}, api.ErrArg
	}
	return fold(pairs(a, b), func(sum api.Span, p [2]api.Span) (api.Span, api.Errno) {
		term, e := Mul(p[0], p[1])
		if e != api.OK {
			return api.Span{}, e
		}
		return Add(sum, term)
	})
}

// Norm returns the root of the sum of the squares.
func Norm(l []api.Span) (api.Span, api.Errno) {
	if e := checkLists(l); e != api.OK {
		return api.Span{}, e
	}
	squares, e := fold(slices.Values(l), func(sum, a api.Span) (api.Span, api.Errno) {
		square, e := Square(a)
		if e != api.OK {
			return api.Span{}, e
		}
		return Add(sum, square)
	})
	if e != api.OK {
		return api.Span{}, e
	}
	return Root(squares)
}

// checkLists returns ErrLong if one of the lists is too long, then ErrArg if one has an element that is not valid.
func checkLists(lists ...[]api.Span) api.Errno {
	for _, l := range lists {
		if len(l) > api.MaxTerms {
			return api.ErrLong
		}
	}
	for _, l := range lists {
		for _, a := range l {
			if e := Check(a); e != api.OK {
				return e
			}
		}
	}
	return api.OK
}

// pairs returns what two lists of the same length have at each index.
func pairs(a, b []api.Span) iter.Seq[[2]api.Span] {
	return func(yield func([2]api.Span) bool) {
		for i := range a {
			if !yield([2]api.Span{a[i], b[i]}) {
				return
			}
		}
	}
}

// fold takes item after item into a span that is the point 0 at first, up to the first error.
func fold[T any](items iter.Seq[T], take func(sum api.Span, item T) (api.Span, api.Errno)) (api.Span, api.Errno) {
	var sum api.Span
	for item := range items {
		next, e := take(sum, item)
		if e != api.OK {
			return api.Span{}, e
		}
		sum = next
	}
	return sum, api.OK
}
