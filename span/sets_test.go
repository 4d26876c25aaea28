package span_test

// P1.6 (sets), P1.7 (questions).

import (
	"math/big"
	"testing"

	"ullage/api"
	"ullage/span"
)

func TestHull(t *testing.T) {
	sameBinary(t, "Hull", span.Hull, func(a, b api.Span) (api.Span, api.Errno) {
		return rounded(exact(a.Lo), exact(a.Hi), exact(b.Lo), exact(b.Hi))
	})
	a, e := span.Hull(ints(0, 1), ints(4, 5))
	is(t, "Hull", a, e, ints(0, 5), api.OK)
	a, e = span.Hull(ints(0, 5), ints(1, 2))
	is(t, "Hull of one within the other", a, e, ints(0, 5), api.OK)
}

func TestMeet(t *testing.T) {
	sameBinary(t, "Meet", span.Meet, func(a, b api.Span) (api.Span, api.Errno) {
		switch {
		case a.Hi < b.Lo || b.Hi < a.Lo:
			return api.Span{}, api.ErrNone
		case a.Lo < b.Lo:
			return raw(b.Lo, min(a.Hi, b.Hi)), api.OK
		}
		return raw(a.Lo, min(a.Hi, b.Hi)), api.OK
	})
	for _, c := range []struct {
		a, b, want api.Span
		e          api.Errno
	}{
		{ints(0, 3), ints(2, 5), ints(2, 3), api.OK},
		{ints(2, 5), ints(0, 3), ints(2, 3), api.OK},
		{ints(0, 9), ints(2, 5), ints(2, 5), api.OK},
		{ints(0, 2), ints(2, 5), ints(2, 2), api.OK},
		{ints(0, 1), ints(2, 5), api.Span{}, api.ErrNone},
		{raw(0, 1), raw(2, 3), api.Span{}, api.ErrNone},
		{ints(2, 5), ints(0, 1), api.Span{}, api.ErrNone},
	} {
		x, e := span.Meet(c.a, c.b)
		is(t, "Meet", x, e, c.want, c.e)
	}
}

func TestGrow(t *testing.T) {
	for _, by := range edges() {
		sameUnary(t, "Grow", func(a api.Span) (api.Span, api.Errno) {
			return span.Grow(a, by)
		}, func(a api.Span) (api.Span, api.Errno) {
			if by < 0 {
				return api.Span{}, api.ErrArg
			}
			return rounded(new(big.Rat).Sub(exact(a.Lo), exact(by)), new(big.Rat).Add(exact(a.Hi), exact(by)))
		})
	}
	for _, c := range []struct {
		a    api.Span
		by   api.Num
		want api.Span
		e    api.Errno
	}{
		{ints(1, 2), 3 * api.One, ints(-2, 5), api.OK},
		{ints(1, 2), 0, ints(1, 2), api.OK},
		{ints(1, 2), -1, api.Span{}, api.ErrArg},
		{ints(1, 2), none, api.Span{}, api.ErrArg},
		{raw(-api.MostNum, api.MostNum), -1, api.Span{}, api.ErrArg},
		{raw(0, 0), api.MostNum, raw(-api.MostNum, api.MostNum), api.OK},
		{raw(0, 1), api.MostNum, api.Span{}, api.ErrRange},
		{raw(-1, 0), api.MostNum, api.Span{}, api.ErrRange},
		{raw(-api.MostNum, 0), 1, api.Span{}, api.ErrRange},
	} {
		x, e := span.Grow(c.a, c.by)
		is(t, "Grow", x, e, c.want, c.e)
	}
	for _, a := range badSpans() {
		x, e := span.Grow(a, -1)
		is(t, "Grow of a span that is not valid", x, e, api.Span{}, api.ErrArg)
	}
}

// middle returns the greatest number that is not above the middle of a span.
func middle(a api.Span) api.Num {
	both := new(big.Rat).Add(exact(a.Lo), exact(a.Hi))
	return api.Num(floor(both.Quo(both, big.NewRat(2, 1))).Int64())
}

func TestMidAndSplit(t *testing.T) {
	r := random()
	spans := edgeSpans()
	for range 5000 {
		spans = append(spans, randomSpan(r))
	}
	for _, a := range spans {
		want := middle(a)
		m, e := span.Mid(a)
		is(t, "Mid", m, e, want, api.OK)
		low, high, e := span.Split(a)
		is(t, "Split, the lower half", low, e, raw(a.Lo, want), api.OK)
		is(t, "Split, the upper half", high, e, raw(want, a.Hi), api.OK)
	}
	for _, c := range []struct {
		a    api.Span
		want api.Num
	}{
		{ints(0, 1), api.One / 2},
		{raw(0, 1), 0},
		{raw(-1, 0), -1},
		{raw(-3, 0), -2},
		{raw(1, 2), 1},
		{raw(1, 3), 2},
		{raw(-api.MostNum, api.MostNum), 0},
		{raw(-api.MostNum, api.MostNum-1), -1},
		{raw(api.MostNum, api.MostNum), api.MostNum},
		{raw(-api.MostNum, -api.MostNum), -api.MostNum},
		{raw(-api.MostNum, -api.MostNum+1), -api.MostNum},
	} {
		m, e := span.Mid(c.a)
		is(t, "Mid", m, e, c.want, api.OK)
	}
	for _, a := range badSpans() {
		m, e := span.Mid(a)
		is(t, "Mid of a span that is not valid", m, e, 0, api.ErrArg)
		low, high, e := span.Split(a)
		is(t, "Split of a span that is not valid", low, e, api.Span{}, api.ErrArg)
		is(t, "Split of a span that is not valid", high, e, api.Span{}, api.ErrArg)
	}
}

func TestWide(t *testing.T) {
	most := exact(api.MostNum)
	for _, a := range edgeSpans() {
		width := new(big.Rat).Sub(exact(a.Hi), exact(a.Lo))
		want, f := api.Num(0), api.ErrRange
		if width.Cmp(most) <= 0 {
			want, f = api.Num(floor(width).Int64()), api.OK
		}
		w, e := span.Wide(a)
		is(t, "Wide", w, e, want, f)
	}
	for _, c := range []struct {
		a    api.Span
		want api.Num
		e    api.Errno
	}{
		{ints(-2, 5), 7 * api.One, api.OK},
		{raw(7, 7), 0, api.OK},
		{raw(0, api.MostNum), api.MostNum, api.OK},
		{raw(-1, api.MostNum), 0, api.ErrRange},
		{raw(-api.MostNum, 0), api.MostNum, api.OK},
		{raw(-api.MostNum, 1), 0, api.ErrRange},
		{raw(-api.MostNum, api.MostNum), 0, api.ErrRange},
	} {
		w, e := span.Wide(c.a)
		is(t, "Wide", w, e, c.want, c.e)
	}
	for _, a := range badSpans() {
		w, e := span.Wide(a)
		is(t, "Wide of a span that is not valid", w, e, 0, api.ErrArg)
	}
}

func TestIn(t *testing.T) {
	for _, a := range append(edgeSpans(), badSpans()...) {
		for _, n := range append(edges(), none) {
			want := valid(a) && n != none && a.Lo <= n && n <= a.Hi
			if got := span.In(a, n); got != want {
				t.Errorf("In(%v, %d) is %t", a, n, got)
			}
		}
	}
	if !span.In(ints(1, 2), api.One) || !span.In(ints(1, 2), 2*api.One) || span.In(ints(1, 2), api.One-1) || span.In(ints(1, 2), 2*api.One+1) {
		t.Error("In is wrong at the ends of a span")
	}
}

func TestWithin(t *testing.T) {
	spans := append(edgeSpans(), badSpans()...)
	for _, a := range spans {
		for _, b := range spans {
			want := valid(a) && valid(b) && a.Lo >= b.Lo && a.Hi <= b.Hi
			if got := span.Within(a, b); got != want {
				t.Fatalf("Within(%v, %v) is %t", a, b, got)
			}
		}
	}
	if !span.Within(ints(1, 2), ints(1, 2)) || !span.Within(ints(1, 2), ints(0, 3)) || span.Within(ints(0, 3), ints(1, 2)) || span.Within(ints(0, 2), ints(1, 3)) {
		t.Error("Within is wrong")
	}
}

func TestSign(t *testing.T) {
	for _, c := range []struct {
		a    api.Span
		want int
	}{
		{ints(1, 2), 1}, {raw(1, 1), 1}, {raw(0, 1), 0}, {raw(0, 0), 0}, {raw(-1, 1), 0}, {raw(-1, 0), 0}, {raw(-1, -1), -1}, {ints(-2, -1), -1},
		{raw(1, api.MostNum), 1}, {raw(-api.MostNum, -1), -1}, {raw(-api.MostNum, api.MostNum), 0},
	} {
		if got := span.Sign(c.a); got != c.want {
			t.Errorf("Sign(%v) is %d, want %d", c.a, got, c.want)
		}
	}
	for _, a := range badSpans() {
		if got := span.Sign(a); got != 0 {
			t.Errorf("Sign(%v) is %d, want 0", a, got)
		}
	}
}

func TestOrder(t *testing.T) {
	for _, c := range []struct {
		a, b api.Span
		want int
	}{
		{ints(0, 1), ints(2, 3), -1}, {ints(2, 3), ints(0, 1), 1}, {ints(0, 2), ints(2, 3), 0}, {ints(2, 3), ints(0, 2), 0},
		{raw(0, 1), raw(2, 3), -1}, {raw(2, 3), raw(0, 1), 1}, {ints(0, 9), ints(2, 3), 0}, {ints(1, 1), ints(1, 1), 0},
		{raw(-api.MostNum, -api.MostNum), raw(api.MostNum, api.MostNum), -1},
	} {
		if got := span.Order(c.a, c.b); got != c.want {
			t.Errorf("Order(%v, %v) is %d, want %d", c.a, c.b, got, c.want)
		}
	}
	for _, bad := range badSpans() {
		for _, b := range append(badSpans(), raw(-api.MostNum, -api.MostNum), raw(api.MostNum, api.MostNum), ints(0, 0)) {
			if span.Order(bad, b) != 0 || span.Order(b, bad) != 0 {
				t.Errorf("Order of %v and %v is not 0", bad, b)
			}
		}
	}
}
