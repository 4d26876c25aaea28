package span_test

// What the tests share: numbers and spans at the edges, and exact arithmetic to hold the program against.

import (
	"math/big"
	"math/rand/v2"
	"testing"

	"ullage/api"
)

// none is the least int64, which is no number.
const none = -api.MostNum - 1

// ints returns the span between two integers.
func ints(lo, hi int) api.Span {
	return api.Span{Lo: api.Num(lo) * api.One, Hi: api.Num(hi) * api.One}
}

// raw returns the span between two numbers.
func raw(lo, hi api.Num) api.Span {
	return api.Span{Lo: lo, Hi: hi}
}

// is fails unless a result and its error are what is wanted.
func is[T comparable](t *testing.T, what string, got T, e api.Errno, want T, f api.Errno) {
	t.Helper()
	if got != want || e != f {
		t.Errorf("%s: %v, error %d; want %v, error %d", what, got, e, want, f)
	}
}

// edges returns valid numbers at and around the places where something changes, in rising order.
func edges() []api.Num {
	return []api.Num{
		-api.MostNum, -api.MostNum + 1, -1 << 62, -46341 * api.One, -1<<47 - 7, -2 * api.One, -api.One - 1, -api.One, -api.One + 1, -api.One / 3, -3, -1,
		0, 1, 2, 65536, api.One / 3, api.One - 1, api.One, api.One + 1, 3*api.One/2 + 1, 46340*api.One + 98765, 1<<62 + 1, api.MostNum - 1, api.MostNum,
	}
}

// edgeSpans returns all valid spans between two edges.
func edgeSpans() []api.Span {
	var l []api.Span
	for i, lo := range edges() {
		for _, hi := range edges()[i:] {
			l = append(l, raw(lo, hi))
		}
	}
	return l
}

// badSpans returns spans that are not valid.
func badSpans() []api.Span {
	return []api.Span{
		raw(none, none), raw(none, 0), raw(none, api.MostNum), raw(none, -api.MostNum), raw(0, none), raw(1, 0), raw(0, -1),
		raw(-1, -2), raw(api.One, api.One-1), raw(api.MostNum, -api.MostNum), raw(api.MostNum, none), raw(3*api.One, 2*api.One),
	}
}

// random returns a source of numbers that are the same in each run.
func random() *rand.Rand {
	return rand.New(rand.NewPCG(1, 2))
}

// randomNum returns a valid number of any size.
func randomNum(r *rand.Rand) api.Num {
	n := api.Num(r.Uint64()>>1) >> r.IntN(63)
	if r.IntN(2) == 0 {
		return -n
	}
	return n
}

// randomSpan returns a valid span of any size.
func randomSpan(r *rand.Rand) api.Span {
	a, b := randomNum(r), randomNum(r)
	switch r.IntN(3) {
	case 0:
		b = a
	case 1:
		b = min(a, api.MostNum-1000) + api.Num(r.IntN(1000))
	}
	return raw(min(a, b), max(a, b))
}

// randomPart returns a span within another one.
func randomPart(r *rand.Rand, a api.Span) api.Span {
	pick := func() api.Num {
		switch r.IntN(4) {
		case 0:
			return a.Lo
		case 1:
			return a.Hi
		}
		n := randomNum(r)
		return max(a.Lo, min(n, a.Hi))
	}
	x, y := pick(), pick()
	return raw(min(x, y), max(x, y))
}

// exact returns a number as it is.
func exact(n api.Num) *big.Rat {
	return big.NewRat(int64(n), 1<<32)
}

// floor returns the greatest integer, in units of 2^-32, that is not above x.
func floor(x *big.Rat) *big.Int {
	n := new(big.Int).Lsh(x.Num(), 32)
	return n.Div(n, x.Denom()) // Div of package big rounds down, if the divisor is above 0
}

// ceil returns the least integer, in units of 2^-32, that is not below x.
func ceil(x *big.Rat) *big.Int {
	n := floor(new(big.Rat).Neg(x))
	return n.Neg(n)
}

// fitted returns the span between two integers, in units of 2^-32, or ErrRange.
func fitted(lo, hi *big.Int) (api.Span, api.Errno) {
	most := big.NewInt(int64(api.MostNum))
	if lo.CmpAbs(most) > 0 || hi.CmpAbs(most) > 0 {
		return api.Span{}, api.ErrRange
	}
	return raw(api.Num(lo.Int64()), api.Num(hi.Int64())), api.OK
}

// rounded rounds out a set of numbers: all from the least one of those that are given to the greatest one.
func rounded(l ...*big.Rat) (api.Span, api.Errno) {
	least, greatest := l[0], l[0]
	for _, x := range l[1:] {
		if x.Cmp(least) < 0 {
			least = x
		}
		if x.Cmp(greatest) > 0 {
			greatest = x
		}
	}
	return fitted(floor(least), ceil(greatest))
}

// valid reports whether a span is valid.
func valid(a api.Span) bool {
	return a.Lo != none && a.Hi != none && a.Lo <= a.Hi
}

// has reports whether a span contains an exact number.
func has(a api.Span, x *big.Rat) bool {
	return exact(a.Lo).Cmp(x) <= 0 && x.Cmp(exact(a.Hi)) <= 0
}

type (
	unary  func(a api.Span) (api.Span, api.Errno)
	binary func(a, b api.Span) (api.Span, api.Errno)
)

// sameUnary holds an operation of one span against what is wanted of it, for valid spans at the edges and others, and for spans that are not valid.
func sameUnary(t *testing.T, name string, got, want unary) {
	t.Helper()
	spans := edgeSpans()
	r := random()
	for range 2000 {
		spans = append(spans, randomSpan(r))
	}
	for _, a := range spans {
		x, e := got(a)
		y, f := want(a)
		if x != y || e != f {
			t.Fatalf("%s(%v): %v, error %d; want %v, error %d", name, a, x, e, y, f)
		}
	}
	for _, a := range badSpans() {
		x, e := got(a)
		is(t, name+" of a span that is not valid", x, e, api.Span{}, api.ErrArg)
	}
}

// sameBinary does the same for an operation of two spans.
func sameBinary(t *testing.T, name string, got, want binary) {
	t.Helper()
	hold := func(a, b api.Span) {
		t.Helper()
		x, e := got(a, b)
		y, f := want(a, b)
		if x != y || e != f {
			t.Fatalf("%s(%v, %v): %v, error %d; want %v, error %d", name, a, b, x, e, y, f)
		}
	}
	for _, a := range edgeSpans() {
		for _, b := range edgeSpans() {
			hold(a, b)
		}
	}
	r := random()
	for range 10000 {
		hold(randomSpan(r), randomSpan(r))
	}
	for _, bad := range badSpans() {
		for _, b := range append(badSpans(), ints(-1, 1), ints(1, 2), raw(api.MostNum, api.MostNum)) {
			x, e := got(bad, b)
			is(t, name+" of a first span that is not valid", x, e, api.Span{}, api.ErrArg)
			x, e = got(b, bad)
			is(t, name+" of a second span that is not valid", x, e, api.Span{}, api.ErrArg)
		}
	}
}
