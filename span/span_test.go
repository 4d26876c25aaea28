package span_test

// P1.1 (numbers).

import (
	"math"
	"math/big"
	"testing"

	"ullage/api"
	"ullage/span"
)

func TestCheck(t *testing.T) {
	for _, a := range edgeSpans() {
		if e := span.Check(a); e != api.OK {
			t.Errorf("Check(%v) is %d", a, e)
		}
	}
	for _, a := range badSpans() {
		if e := span.Check(a); e != api.ErrArg {
			t.Errorf("Check(%v) is %d, want ErrArg", a, e)
		}
	}
}

func TestPoint(t *testing.T) {
	for _, n := range edges() {
		a, e := span.Point(n)
		is(t, "Point", a, e, raw(n, n), api.OK)
	}
	a, e := span.Point(none)
	is(t, "Point of the least int64", a, e, api.Span{}, api.ErrArg)
}

func TestOf(t *testing.T) {
	const most = 1<<31 - 1
	for _, n := range []int{0, 1, -1, -3, 1000000, most - 1, most, -most} {
		a, e := span.Of(n)
		is(t, "Of", a, e, ints(n, n), api.OK)
	}
	for _, n := range []int{most + 1, -most - 1, -most - 2, 1 << 32, -1 << 32, 1<<32 + 1, 1 << 33, math.MaxInt, math.MinInt, math.MinInt + 1} {
		a, e := span.Of(n)
		is(t, "Of an integer that is too great", a, e, api.Span{}, api.ErrRange)
	}
}

func TestRatio(t *testing.T) {
	for _, c := range []struct {
		a, b int
		want api.Span
		e    api.Errno
	}{
		{1, 3, raw(1431655765, 1431655766), api.OK},
		{-1, 3, raw(-1431655766, -1431655765), api.OK},
		{1, -3, raw(-1431655766, -1431655765), api.OK},
		{-1, -3, raw(1431655765, 1431655766), api.OK},
		{6, 3, ints(2, 2), api.OK},
		{0, 5, ints(0, 0), api.OK},
		{0, -5, ints(0, 0), api.OK},
		{1, 1 << 32, raw(1, 1), api.OK},
		{1, 1<<32 + 1, raw(0, 1), api.OK},
		{-1, 1 << 33, raw(-1, 0), api.OK},
		{1, math.MinInt, raw(-1, 0), api.OK},
		{-1, math.MinInt, raw(0, 1), api.OK},
		{math.MinInt, math.MinInt, ints(1, 1), api.OK},
		{math.MinInt, 1 << 33, ints(-1<<30, -1<<30), api.OK},
		{math.MaxInt, 1 << 32, raw(api.MostNum, api.MostNum), api.OK},
		{-math.MaxInt, 1 << 32, raw(-api.MostNum, -api.MostNum), api.OK},
		{math.MaxInt, 1<<32 - 1, api.Span{}, api.ErrRange},
		{math.MinInt, 1 << 32, api.Span{}, api.ErrRange},
		{math.MinInt, -1 << 32, api.Span{}, api.ErrRange},
		{1 << 31, 1, api.Span{}, api.ErrRange},
		{-1 << 31, 1, api.Span{}, api.ErrRange},
		{math.MinInt, -1, api.Span{}, api.ErrRange},
		{math.MinInt, 1, api.Span{}, api.ErrRange},
		{1, 0, api.Span{}, api.ErrZero},
		{0, 0, api.Span{}, api.ErrZero},
		{math.MaxInt, 0, api.Span{}, api.ErrZero},
		{math.MinInt, 0, api.Span{}, api.ErrZero},
	} {
		a, e := span.Ratio(c.a, c.b)
		is(t, "Ratio", a, e, c.want, c.e)
	}
}

func TestRatioIsRoundedOut(t *testing.T) {
	r := random()
	for range 20000 {
		a, b := int(randomNum(r)), int(randomNum(r))
		if b == 0 {
			continue
		}
		got, e := span.Ratio(a, b)
		want, f := rounded(big.NewRat(int64(a), int64(b)))
		is(t, "Ratio", got, e, want, f)
	}
}

// TestRatioAtTheLimit has quotients around the greatest and the least number.
func TestRatioAtTheLimit(t *testing.T) {
	for b := 1<<32 - 2; b <= 1<<32+2; b++ {
		for _, a := range []int{math.MaxInt, math.MaxInt - 1, math.MinInt, math.MinInt + 1, math.MinInt + 2} {
			got, e := span.Ratio(a, b)
			want, f := rounded(new(big.Rat).SetFrac(big.NewInt(int64(a)), big.NewInt(int64(b))))
			is(t, "Ratio", got, e, want, f)
		}
	}
}
