package steer_test

// What the tests share: spans, and the operations of layer 1 in fractions of any size, to evaluate the chapter's formulas apart from the program.

import (
	"math/big"
	"math/rand/v2"
	"slices"
	"testing"

	"ullage/api"
)

// none is the least int64, which is no number.
const none = -api.MostNum - 1

// ints returns the span between two integers.
func ints(lo, hi int) api.Span {
	return raw(api.Num(lo)*api.One, api.Num(hi)*api.One)
}

// raw returns the span between two numbers.
func raw(lo, hi api.Num) api.Span {
	return api.Span{Lo: lo, Hi: hi}
}

// at returns a number as a span.
func at(n api.Num) api.Span {
	return raw(n, n)
}

// points returns integers as points.
func points(l ...int) []api.Span {
	var out []api.Span
	for _, n := range l {
		out = append(out, ints(n, n))
	}
	return out
}

// random returns a source of numbers that are the same in each run.
func random() *rand.Rand {
	return rand.New(rand.NewPCG(5, 12))
}

// upTo returns a number from -most to most.
func upTo(r *rand.Rand, most api.Num) api.Num {
	return api.Num(r.Uint64N(2*uint64(most)+1)) - most
}

// around returns a span around a number, often a point.
func around(r *rand.Rand, n, width api.Num) api.Span {
	if r.IntN(2) == 0 {
		return at(n)
	}
	return raw(n-api.Num(r.Int64N(int64(width)+1)), n+api.Num(r.Int64N(int64(width)+1)))
}

// inside returns a number of a span: often an end of it.
func inside(r *rand.Rand, a api.Span) api.Num {
	switch r.IntN(4) {
	case 0:
		return a.Lo
	case 1:
		return a.Hi
	}
	return a.Lo + api.Num(r.Uint64N(uint64(a.Hi-a.Lo)+1))
}

// within returns a span within another one.
func within(r *rand.Rand, a api.Span) api.Span {
	x, y := inside(r, a), inside(r, a)
	return raw(min(x, y), max(x, y))
}

// anyNum returns a number of any size, valid or not.
func anyNum(r *rand.Rand) api.Num {
	edge := []api.Num{none, -api.MostNum, -api.One, -1, 0, 1, api.One / 2, api.One, api.One + 1, api.MostNum}
	if r.IntN(3) == 0 {
		return edge[r.IntN(len(edge))]
	}
	return api.Num(r.Uint64()) >> r.IntN(64)
}

// anySpan returns a span of any numbers, mostly valid.
func anySpan(r *rand.Rand) api.Span {
	a, b := anyNum(r), anyNum(r)
	if r.IntN(12) == 0 {
		return raw(a, b)
	}
	return raw(min(a, b), max(a, b))
}

// badSpans returns spans that are not valid.
func badSpans() []api.Span {
	return []api.Span{raw(none, none), raw(none, 0), raw(none, api.MostNum), raw(0, none), raw(1, 0), raw(api.One, api.One-1), raw(api.MostNum, -api.MostNum)}
}

// isValid reports whether all spans are valid.
func isValid(l ...api.Span) bool {
	for _, a := range l {
		if a.Lo == none || a.Lo > a.Hi {
			return false
		}
	}
	return true
}

// is fails unless a result and its error are what is wanted.
func is[T comparable](t *testing.T, what string, got T, e api.Errno, want T, f api.Errno) {
	t.Helper()
	if got != want || e != f {
		t.Errorf("%s: %v, error %d; want %v, error %d", what, got, e, want, f)
	}
}

// are fails unless a list and its error are what is wanted. Of long lists it shows the beginning.
func are[T comparable](t *testing.T, what string, got []T, e api.Errno, want []T, f api.Errno) {
	t.Helper()
	if !slices.Equal(got, want) || e != f {
		t.Errorf("%s: %d of %v, error %d; want %d of %v, error %d", what, len(got), got[:min(len(got), 20)], e, len(want), want[:min(len(want), 20)], f)
	}
}

// two is two spans.
type two [2]api.Span

// exact returns a number as it is.
func exact(n api.Num) *big.Rat {
	return big.NewRat(int64(n), int64(api.One))
}

// sheet evaluates operations in fractions, and keeps the first error.
type sheet struct{ e api.Errno }

// fail keeps an error if it is the first one.
func (s *sheet) fail(e api.Errno) api.Span {
	if s.e == api.OK {
		s.e = e
	}
	return api.Span{}
}

// rounded rounds out the numbers from the least one to the greatest one of a list.
func (s *sheet) rounded(l ...*big.Rat) api.Span {
	lo := floor(slices.MinFunc(l, (*big.Rat).Cmp))
	hi := floor(new(big.Rat).Neg(slices.MaxFunc(l, (*big.Rat).Cmp)))
	hi.Neg(hi)
	limit := big.NewInt(int64(api.MostNum))
	if lo.CmpAbs(limit) > 0 || hi.CmpAbs(limit) > 0 {
		return s.fail(api.ErrRange)
	}
	return raw(api.Num(lo.Int64()), api.Num(hi.Int64()))
}

// floor returns the greatest integer, in units of 2^-32, that is not above x.
func floor(x *big.Rat) *big.Int {
	n := new(big.Int).Lsh(x.Num(), 32)
	return n.Div(n, x.Denom()) // Div of package big rounds down, if the divisor is above 0
}

// ends rounds out what an operation makes of the ends of two spans.
func (s *sheet) ends(a, b api.Span, op func(z, x, y *big.Rat) *big.Rat) api.Span {
	var l []*big.Rat
	for _, x := range []api.Num{a.Lo, a.Hi} {
		for _, y := range []api.Num{b.Lo, b.Hi} {
			l = append(l, op(new(big.Rat), exact(x), exact(y)))
		}
	}
	return s.rounded(l...)
}

func (s *sheet) plus(a, b api.Span) api.Span { return s.ends(a, b, (*big.Rat).Add) }

func (s *sheet) minus(a, b api.Span) api.Span { return s.ends(a, b, (*big.Rat).Sub) }

func (s *sheet) times(a, b api.Span) api.Span { return s.ends(a, b, (*big.Rat).Mul) }

func (s *sheet) over(a, b api.Span) api.Span {
	if b.Lo <= 0 && b.Hi >= 0 {
		return s.fail(api.ErrZero)
	}
	return s.ends(a, b, (*big.Rat).Quo)
}

// scaled returns all products with an integer, which may be too great for a number.
func (s *sheet) scaled(a api.Span, n int64) api.Span {
	by := big.NewRat(n, 1)
	return s.rounded(new(big.Rat).Mul(exact(a.Lo), by), new(big.Rat).Mul(exact(a.Hi), by))
}

// sine returns the sines of angles, by the tangents of their halves.
func (s *sheet) sine(t api.Span) api.Span {
	if t.Lo < -api.One || t.Hi > api.One {
		return s.fail(api.ErrRange)
	}
	return s.rounded(sine(exact(t.Lo)), sine(exact(t.Hi)))
}

// sine returns 2 x / (1 + x x).
func sine(x *big.Rat) *big.Rat {
	below := new(big.Rat).Mul(x, x)
	below.Add(below, big.NewRat(1, 1))
	return below.Quo(new(big.Rat).Add(x, x), below)
}

// both returns two results, or zero values with the error.
func (s *sheet) both(a, b api.Span) (two, api.Errno) {
	if s.e != api.OK {
		return two{}, s.e
	}
	return two{a, b}, api.OK
}

// one returns a result, or the zero value with the error.
func (s *sheet) one(a api.Span) (api.Span, api.Errno) {
	if s.e != api.OK {
		return api.Span{}, s.e
	}
	return a, api.OK
}
