package span_test

// P1.3 (sums), P1.4 (products), P1.5 (squares, roots, sizes).

import (
	"math"
	"math/big"
	"testing"

	"ullage/api"
	"ullage/span"
)

// cornersOf returns what an exact operation makes of each two ends of two spans.
func cornersOf(a, b api.Span, f func(z, x, y *big.Rat) *big.Rat) []*big.Rat {
	var l []*big.Rat
	for _, x := range []api.Num{a.Lo, a.Hi} {
		for _, y := range []api.Num{b.Lo, b.Hi} {
			l = append(l, f(new(big.Rat), exact(x), exact(y)))
		}
	}
	return l
}

func TestAdd(t *testing.T) {
	sameBinary(t, "Add", span.Add, func(a, b api.Span) (api.Span, api.Errno) {
		return rounded(cornersOf(a, b, (*big.Rat).Add)...)
	})
	for _, c := range []struct {
		a, b, want api.Span
		e          api.Errno
	}{
		{ints(1, 2), ints(-4, 8), ints(-3, 10), api.OK},
		{raw(api.MostNum, api.MostNum), raw(0, 0), raw(api.MostNum, api.MostNum), api.OK},
		{raw(0, api.MostNum-1), raw(0, 1), raw(0, api.MostNum), api.OK},
		{raw(0, api.MostNum), raw(0, 1), api.Span{}, api.ErrRange},
		{raw(-api.MostNum+1, 0), raw(-1, 0), raw(-api.MostNum, 0), api.OK},
		{raw(-api.MostNum, 0), raw(-1, 0), api.Span{}, api.ErrRange},
		{raw(-api.MostNum, 0), raw(-2, 0), api.Span{}, api.ErrRange},
		{raw(-api.MostNum, -api.MostNum), raw(-api.MostNum, -api.MostNum), api.Span{}, api.ErrRange},
		{raw(-api.MostNum, -api.MostNum), raw(api.MostNum, api.MostNum), raw(0, 0), api.OK},
	} {
		x, e := span.Add(c.a, c.b)
		is(t, "Add", x, e, c.want, c.e)
	}
}

func TestSub(t *testing.T) {
	sameBinary(t, "Sub", span.Sub, func(a, b api.Span) (api.Span, api.Errno) {
		return rounded(cornersOf(a, b, (*big.Rat).Sub)...)
	})
	for _, c := range []struct {
		a, b, want api.Span
		e          api.Errno
	}{
		{ints(1, 2), ints(-4, 8), ints(-7, 6), api.OK},
		{raw(-api.MostNum, 0), raw(0, 1), api.Span{}, api.ErrRange},
		{raw(-1, 0), raw(0, api.MostNum), api.Span{}, api.ErrRange},
		{raw(0, 0), raw(-api.MostNum, api.MostNum), raw(-api.MostNum, api.MostNum), api.OK},
		{raw(0, 1), raw(-api.MostNum, 0), api.Span{}, api.ErrRange},
	} {
		x, e := span.Sub(c.a, c.b)
		is(t, "Sub", x, e, c.want, c.e)
	}
}

func TestNeg(t *testing.T) {
	sameUnary(t, "Neg", span.Neg, func(a api.Span) (api.Span, api.Errno) {
		return rounded(new(big.Rat).Neg(exact(a.Lo)), new(big.Rat).Neg(exact(a.Hi)))
	})
	a, e := span.Neg(raw(-api.MostNum, 5))
	is(t, "Neg", a, e, raw(-5, api.MostNum), api.OK)
}

func TestScale(t *testing.T) {
	for _, n := range []int{0, 1, -1, 2, -3, 7, 1000, 1 << 31, -1 << 31, 1<<31 - 1, 1 << 32, 1<<53 + 1, 1 << 62, math.MaxInt, -math.MaxInt, math.MinInt} {
		factor := big.NewRat(int64(n), 1)
		sameUnary(t, "Scale", func(a api.Span) (api.Span, api.Errno) {
			return span.Scale(a, n)
		}, func(a api.Span) (api.Span, api.Errno) {
			return rounded(new(big.Rat).Mul(exact(a.Lo), factor), new(big.Rat).Mul(exact(a.Hi), factor))
		})
	}
	for _, c := range []struct {
		a    api.Span
		n    int
		want api.Span
		e    api.Errno
	}{
		{ints(1, 2), -3, ints(-6, -3), api.OK},
		{ints(1, 2), 3, ints(3, 6), api.OK},
		{raw(-1, 1), math.MaxInt, raw(-api.MostNum, api.MostNum), api.OK},
		{raw(1, 1), math.MinInt, api.Span{}, api.ErrRange},
		{raw(-1, -1), math.MinInt, api.Span{}, api.ErrRange},
		{raw(0, 0), math.MinInt, raw(0, 0), api.OK},
		{raw(-api.MostNum, api.MostNum), 0, raw(0, 0), api.OK},
		{raw(-api.MostNum, api.MostNum), -1, raw(-api.MostNum, api.MostNum), api.OK},
		{raw(-1<<62, 0), 2, api.Span{}, api.ErrRange},
		{raw(0, 1<<62), -2, api.Span{}, api.ErrRange},
	} {
		x, e := span.Scale(c.a, c.n)
		is(t, "Scale", x, e, c.want, c.e)
	}
}

func TestMul(t *testing.T) {
	sameBinary(t, "Mul", span.Mul, func(a, b api.Span) (api.Span, api.Errno) {
		return rounded(cornersOf(a, b, (*big.Rat).Mul)...)
	})
	// The product of near and far lies between the greatest number and what would be the one behind it.
	near, far := api.One+1, api.MostNum-(1<<31-1)
	for _, c := range []struct {
		a, b, want api.Span
		e          api.Errno
	}{
		{ints(-1, 2), ints(3, 4), ints(-4, 8), api.OK},
		{ints(-3, -2), ints(-5, 4), ints(-12, 15), api.OK},
		{raw(1, 1), raw(1, 1), raw(0, 1), api.OK},
		{raw(1, 1), raw(-1, -1), raw(-1, 0), api.OK},
		{raw(-1, 1), raw(-1, 1), raw(-1, 1), api.OK},
		{raw(near, near), raw(far, far), api.Span{}, api.ErrRange},
		{raw(near, near), raw(-far, -far), api.Span{}, api.ErrRange},
		{raw(near, near), raw(far-1, far-1), raw(api.MostNum-1, api.MostNum), api.OK},
		{ints(1<<16, 1<<16), ints(1<<15, 1<<15), api.Span{}, api.ErrRange},
		{ints(-1<<16, -1<<16), ints(1<<15, 1<<15), api.Span{}, api.ErrRange},
		{raw(-api.MostNum, api.MostNum), ints(0, 0), ints(0, 0), api.OK},
		{raw(-api.MostNum, api.MostNum), ints(-1, 1), raw(-api.MostNum, api.MostNum), api.OK},
		{raw(api.MostNum, api.MostNum), raw(api.MostNum, api.MostNum), api.Span{}, api.ErrRange},
	} {
		x, e := span.Mul(c.a, c.b)
		is(t, "Mul", x, e, c.want, c.e)
	}
}

func TestDiv(t *testing.T) {
	sameBinary(t, "Div", span.Div, func(a, b api.Span) (api.Span, api.Errno) {
		if b.Lo <= 0 && 0 <= b.Hi {
			return api.Span{}, api.ErrZero
		}
		return rounded(cornersOf(a, b, (*big.Rat).Quo)...)
	})
	most := raw(api.MostNum, api.MostNum)
	for _, c := range []struct {
		a, b, want api.Span
		e          api.Errno
	}{
		{ints(1, 2), ints(-4, -2), raw(-api.One, -api.One/4), api.OK},
		{ints(1, 2), ints(-1, 1), api.Span{}, api.ErrZero},
		{ints(1, 2), ints(0, 1), api.Span{}, api.ErrZero},
		{ints(1, 2), ints(-1, 0), api.Span{}, api.ErrZero},
		{ints(0, 0), ints(0, 0), api.Span{}, api.ErrZero},
		{most, ints(0, 1), api.Span{}, api.ErrZero},
		{ints(0, 0), raw(1, 1), ints(0, 0), api.OK},
		{ints(1, 1), ints(3, 3), raw(1431655765, 1431655766), api.OK},
		{ints(-1, -1), ints(3, 3), raw(-1431655766, -1431655765), api.OK},
		{ints(1, 1), most, raw(2, 3), api.OK},
		{raw(1, 1), most, raw(0, 1), api.OK},
		{raw(-1, -1), most, raw(-1, 0), api.OK},
		{most, raw(api.One-1, api.One-1), api.Span{}, api.ErrRange},
		{most, raw(1, 1), api.Span{}, api.ErrRange},
		{most, raw(-1, -1), api.Span{}, api.ErrRange},
		{most, most, ints(1, 1), api.OK},
		{most, ints(-1, -1), raw(-api.MostNum, -api.MostNum), api.OK},
	} {
		x, e := span.Div(c.a, c.b)
		is(t, "Div", x, e, c.want, c.e)
	}
}

func TestSquare(t *testing.T) {
	sameUnary(t, "Square", span.Square, func(a api.Span) (api.Span, api.Errno) {
		l := []*big.Rat{new(big.Rat).Mul(exact(a.Lo), exact(a.Lo)), new(big.Rat).Mul(exact(a.Hi), exact(a.Hi))}
		if a.Lo <= 0 && 0 <= a.Hi {
			l = append(l, new(big.Rat))
		}
		return rounded(l...)
	})
	for _, c := range []struct {
		a, want api.Span
		e       api.Errno
	}{
		{ints(-2, 1), ints(0, 4), api.OK},
		{ints(-3, -2), ints(4, 9), api.OK},
		{ints(2, 3), ints(4, 9), api.OK},
		{raw(-1, 1), raw(0, 1), api.OK},
		{raw(-1, -1), raw(0, 1), api.OK},
		{raw(1, 65536), raw(0, 1), api.OK},
		{raw(65536, 65537), raw(1, 2), api.OK},
		{ints(46341, 46341), api.Span{}, api.ErrRange},
		{ints(-46341, 0), api.Span{}, api.ErrRange},
		{ints(-46340, 46340), ints(0, 46340*46340), api.OK},
		{raw(-api.MostNum, api.MostNum), api.Span{}, api.ErrRange},
	} {
		x, e := span.Square(c.a)
		is(t, "Square", x, e, c.want, c.e)
	}
}

func TestRoot(t *testing.T) {
	sameUnary(t, "Root", span.Root, func(a api.Span) (api.Span, api.Errno) {
		if a.Hi < 0 {
			return api.Span{}, api.ErrRange
		}
		lo := new(big.Int).Lsh(big.NewInt(max(0, int64(a.Lo))), 32)
		hi := new(big.Int).Lsh(big.NewInt(int64(a.Hi)), 32)
		low, high := new(big.Int).Sqrt(lo), new(big.Int).Sqrt(hi)
		if new(big.Int).Mul(high, high).Cmp(hi) < 0 {
			high.Add(high, big.NewInt(1))
		}
		return fitted(low, high)
	})
	for _, c := range []struct {
		a, want api.Span
		e       api.Errno
	}{
		{ints(-9, 4), ints(0, 2), api.OK},
		{ints(4, 9), ints(2, 3), api.OK},
		{ints(-9, 0), ints(0, 0), api.OK},
		{ints(0, 0), ints(0, 0), api.OK},
		{ints(2, 2), raw(6074000999, 6074001000), api.OK},
		{raw(1, 1), raw(65536, 65536), api.OK},
		{raw(2, 2), raw(92681, 92682), api.OK},
		{raw(api.One/4, api.One/4), raw(api.One/2, api.One/2), api.OK},
		{ints(46340*46340, 46340*46340), ints(46340, 46340), api.OK},
		{raw(-api.MostNum, api.MostNum), raw(0, 199032864766431), api.OK},
		{ints(-2, -1), api.Span{}, api.ErrRange},
		{raw(-1, -1), api.Span{}, api.ErrRange},
		{raw(-api.MostNum, -api.MostNum), api.Span{}, api.ErrRange},
	} {
		x, e := span.Root(c.a)
		is(t, "Root", x, e, c.want, c.e)
	}
}

func TestAbs(t *testing.T) {
	sameUnary(t, "Abs", span.Abs, func(a api.Span) (api.Span, api.Errno) {
		l := []*big.Rat{new(big.Rat).Abs(exact(a.Lo)), new(big.Rat).Abs(exact(a.Hi))}
		if a.Lo <= 0 && 0 <= a.Hi {
			l = append(l, new(big.Rat))
		}
		return rounded(l...)
	})
	for _, c := range []struct{ a, want api.Span }{
		{ints(-3, 2), ints(0, 3)},
		{ints(-2, 3), ints(0, 3)},
		{ints(-3, -2), ints(2, 3)},
		{ints(2, 3), ints(2, 3)},
		{ints(-3, 0), ints(0, 3)},
		{raw(-api.MostNum, -api.MostNum), raw(api.MostNum, api.MostNum)},
	} {
		x, e := span.Abs(c.a)
		is(t, "Abs", x, e, c.want, api.OK)
	}
}

func TestMost(t *testing.T) {
	sameBinary(t, "Most", span.Most, func(a, b api.Span) (api.Span, api.Errno) {
		return rounded(cornersOf(a, b, func(z, x, y *big.Rat) *big.Rat {
			if x.Cmp(y) > 0 {
				return x
			}
			return y
		})...)
	})
	a, e := span.Most(ints(0, 5), ints(2, 3))
	is(t, "Most", a, e, ints(2, 5), api.OK)
}

func TestLeast(t *testing.T) {
	sameBinary(t, "Least", span.Least, func(a, b api.Span) (api.Span, api.Errno) {
		return rounded(cornersOf(a, b, func(z, x, y *big.Rat) *big.Rat {
			if x.Cmp(y) < 0 {
				return x
			}
			return y
		})...)
	})
	a, e := span.Least(ints(0, 5), ints(2, 3))
	is(t, "Least", a, e, ints(0, 3), api.OK)
}
