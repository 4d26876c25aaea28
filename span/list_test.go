package span_test

// P1.10 (lists).

import (
	"slices"
	"testing"

	"ullage/api"
	"ullage/span"
)

// times returns a list of n spans that are the same.
func times(n int, a api.Span) []api.Span {
	return slices.Repeat([]api.Span{a}, n)
}

func TestSum(t *testing.T) {
	most := raw(api.MostNum, api.MostNum)
	for _, c := range []struct {
		l    []api.Span
		want api.Span
		e    api.Errno
	}{
		{nil, ints(0, 0), api.OK},
		{[]api.Span{}, ints(0, 0), api.OK},
		{[]api.Span{ints(-2, 5)}, ints(-2, 5), api.OK},
		{[]api.Span{ints(1, 2), ints(-4, 8), ints(7, 7)}, ints(4, 17), api.OK},
		{times(64, ints(1, 2)), ints(64, 128), api.OK},
		{times(65, ints(1, 2)), api.Span{}, api.ErrLong},
		{times(1000, raw(1, 0)), api.Span{}, api.ErrLong},
		{append(times(64, ints(0, 0)), raw(1, 0)), api.Span{}, api.ErrLong},
		{append(times(63, ints(0, 0)), raw(1, 0)), api.Span{}, api.ErrArg},
		{[]api.Span{most, most, raw(1, 0)}, api.Span{}, api.ErrArg},
		{[]api.Span{raw(none, 0), most, most}, api.Span{}, api.ErrArg},
		{[]api.Span{most, raw(1, 1)}, api.Span{}, api.ErrRange},
		{[]api.Span{most, raw(1, 1), raw(-1, -1)}, api.Span{}, api.ErrRange},
		{[]api.Span{most, raw(-1, -1), raw(1, 1)}, most, api.OK},
		{[]api.Span{raw(-api.MostNum, 0), raw(-1, 0), raw(1, 1)}, api.Span{}, api.ErrRange},
	} {
		a, e := span.Sum(c.l)
		is(t, "Sum", a, e, c.want, c.e)
	}
}

func TestDot(t *testing.T) {
	most, bad := raw(api.MostNum, api.MostNum), raw(1, 0)
	for _, c := range []struct {
		a, b []api.Span
		want api.Span
		e    api.Errno
	}{
		{nil, nil, ints(0, 0), api.OK},
		{nil, []api.Span{}, ints(0, 0), api.OK},
		{[]api.Span{ints(1, 1), ints(2, 2)}, []api.Span{ints(3, 3), ints(4, 4)}, ints(11, 11), api.OK},
		{[]api.Span{ints(-1, 2), ints(2, 3)}, []api.Span{ints(3, 4), ints(-1, 0)}, ints(-7, 8), api.OK},
		{[]api.Span{raw(1, 1), raw(1, 1)}, []api.Span{raw(1, 1), raw(1, 1)}, raw(0, 2), api.OK},
		{times(64, ints(1, 2)), times(64, ints(3, 4)), ints(192, 512), api.OK},
		{times(65, ints(1, 2)), times(65, ints(3, 4)), api.Span{}, api.ErrLong},
		{times(65, ints(1, 2)), times(64, ints(3, 4)), api.Span{}, api.ErrLong},
		{times(64, ints(1, 2)), times(65, ints(3, 4)), api.Span{}, api.ErrLong},
		{times(64, bad), times(65, ints(3, 4)), api.Span{}, api.ErrLong},
		{times(65, ints(3, 4)), nil, api.Span{}, api.ErrLong},
		{nil, times(65, bad), api.Span{}, api.ErrLong},
		{[]api.Span{bad}, []api.Span{ints(1, 1)}, api.Span{}, api.ErrArg},
		{[]api.Span{ints(1, 1)}, []api.Span{bad}, api.Span{}, api.ErrArg},
		{[]api.Span{most, bad}, []api.Span{most, most}, api.Span{}, api.ErrArg},
		{[]api.Span{most, most}, []api.Span{most, bad}, api.Span{}, api.ErrArg},
		{[]api.Span{ints(1, 1)}, nil, api.Span{}, api.ErrArg},
		{nil, []api.Span{ints(1, 1)}, api.Span{}, api.ErrArg},
		{[]api.Span{ints(1, 1), ints(1, 1)}, []api.Span{ints(1, 1)}, api.Span{}, api.ErrArg},
		{[]api.Span{ints(1, 1)}, []api.Span{ints(1, 1), ints(1, 1)}, api.Span{}, api.ErrArg},
		{[]api.Span{most, most}, []api.Span{most}, api.Span{}, api.ErrArg},
		{[]api.Span{most}, []api.Span{ints(2, 2)}, api.Span{}, api.ErrRange},
		{[]api.Span{most, raw(1, 1)}, []api.Span{ints(1, 1), ints(1, 1)}, api.Span{}, api.ErrRange},
		{[]api.Span{most, ints(1, 1), most}, []api.Span{ints(1, 1), ints(1, 1), ints(-1, -1)}, api.Span{}, api.ErrRange},
		{[]api.Span{most, most, ints(1, 1)}, []api.Span{ints(1, 1), ints(-1, -1), ints(1, 1)}, ints(1, 1), api.OK},
	} {
		a, e := span.Dot(c.a, c.b)
		is(t, "Dot", a, e, c.want, c.e)
	}
}

func TestNorm(t *testing.T) {
	for _, c := range []struct {
		l    []api.Span
		want api.Span
		e    api.Errno
	}{
		{nil, ints(0, 0), api.OK},
		{[]api.Span{}, ints(0, 0), api.OK},
		{[]api.Span{ints(-5, -5)}, ints(5, 5), api.OK},
		{[]api.Span{ints(-5, 4)}, ints(0, 5), api.OK},
		{[]api.Span{ints(3, 3), ints(-4, -4), ints(12, 12)}, ints(13, 13), api.OK},
		{[]api.Span{ints(3, 6), ints(-8, 4)}, ints(3, 10), api.OK},
		{[]api.Span{ints(1, 1), ints(1, 1)}, raw(6074000999, 6074001000), api.OK},
		{[]api.Span{raw(1, 1), raw(-1, 1)}, raw(0, 92682), api.OK},
		{times(64, ints(2, 2)), ints(16, 16), api.OK},
		{times(65, ints(2, 2)), api.Span{}, api.ErrLong},
		{times(65, raw(1, 0)), api.Span{}, api.ErrLong},
		{append(times(63, ints(46340, 46340)), raw(1, 0)), api.Span{}, api.ErrArg},
		{[]api.Span{raw(none, none)}, api.Span{}, api.ErrArg},
		{[]api.Span{ints(46341, 46341)}, api.Span{}, api.ErrRange},
		{[]api.Span{ints(46340, 46340)}, ints(46340, 46340), api.OK},
		{[]api.Span{ints(46340, 46340), ints(1000, 1000)}, api.Span{}, api.ErrRange},
	} {
		a, e := span.Norm(c.l)
		is(t, "Norm", a, e, c.want, c.e)
	}
}

// TestListsAreFolded holds the lists' operations against the steps that they are said to consist of.
func TestListsAreFolded(t *testing.T) {
	r := random()
	for range 3000 {
		var a, b []api.Span
		for range r.IntN(65) {
			a, b = append(a, randomSpan(r)), append(b, randomSpan(r))
		}
		sum := folded(len(a), func(i int) (api.Span, api.Errno) { return a[i], api.OK })
		dot := folded(len(a), func(i int) (api.Span, api.Errno) { return span.Mul(a[i], b[i]) })
		squares := folded(len(a), func(i int) (api.Span, api.Errno) { return span.Square(a[i]) })
		x, e := span.Sum(a)
		is(t, "Sum", x, e, sum.a, sum.e)
		x, e = span.Dot(a, b)
		is(t, "Dot", x, e, dot.a, dot.e)
		if squares.e == api.OK {
			squares.a, squares.e = span.Root(squares.a)
		}
		x, e = span.Norm(a)
		is(t, "Norm", x, e, squares.a, squares.e)
	}
}

// result is what a call returned.
type result struct {
	a api.Span
	e api.Errno
}

// folded adds n terms, from the point 0 on, up to the first error.
func folded(n int, term func(i int) (api.Span, api.Errno)) result {
	var sum api.Span
	for i := range n {
		a, e := term(i)
		if e != api.OK {
			return result{e: e}
		}
		if sum, e = span.Add(sum, a); e != api.OK {
			return result{e: e}
		}
	}
	return result{a: sum}
}
