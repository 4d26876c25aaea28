package span_test

// P1.8 (tables).

import (
	"math/big"
	"math/rand/v2"
	"slices"
	"testing"

	"ullage/api"
	"ullage/span"
)

// steps returns a table of n points that is valid.
func steps(n int) []api.Point {
	var l []api.Point
	for i := range n {
		l = append(l, api.Point{At: api.Num(i) * api.One, Value: ints(i, 2*i)})
	}
	return l
}

// points returns a table of points with the same value, whose places are given.
func points(at ...api.Num) []api.Point {
	var l []api.Point
	for _, n := range at {
		l = append(l, api.Point{At: n, Value: ints(1, 2)})
	}
	return l
}

// goodTables returns tables that are valid.
func goodTables() [][]api.Point {
	const most = api.MaxPart
	return [][]api.Point{
		steps(1), steps(2), steps(63), steps(64),
		points(0), points(-1, 0), points(-most, most), points(most-1, most), points(-most, -most+1),
		{{At: 0, Value: raw(-most, most)}},
		{{At: 0, Value: raw(-most, -most)}, {At: 1, Value: raw(most, most)}},
	}
}

// badTables returns tables that are not valid.
func badTables() [][]api.Point {
	const most = api.MaxPart
	l := [][]api.Point{
		nil, {}, steps(65), steps(200),
		points(0, 0), points(1, 0), points(0, 2, 1), points(0, 1, 1), points(0, 1, 2, 2), points(0, -1, 1),
		points(most + 1), points(-most - 1), points(0, most+1), points(-most-1, 0), points(none), points(none, 0), points(api.MostNum),
		{{At: 0, Value: raw(0, most+1)}}, {{At: 0, Value: raw(-most-1, 0)}}, {{At: 0, Value: raw(most+1, most+1)}}, {{At: 0, Value: raw(-most-1, -most-1)}},
		{{At: 0, Value: raw(0, api.MostNum)}}, {{At: 0, Value: raw(-api.MostNum, 0)}},
	}
	for _, bad := range badSpans() {
		l = append(l, []api.Point{{At: 0, Value: bad}}, []api.Point{{At: 0}, {At: 1, Value: bad}}, []api.Point{{At: 0}, {At: 1, Value: bad}, {At: 2}})
	}
	return l
}

func TestCheckTable(t *testing.T) {
	for i, l := range goodTables() {
		if e := span.CheckTable(l); e != api.OK {
			t.Errorf("CheckTable of the valid table %d is %d", i, e)
		}
	}
	for i, l := range badTables() {
		if e := span.CheckTable(l); e != api.ErrArg {
			t.Errorf("CheckTable of table %d, which is not valid, is %d", i, e)
		}
	}
}

func TestLookOfWhatIsNotValid(t *testing.T) {
	for _, l := range badTables() {
		for _, x := range append(badSpans(), ints(0, 0), ints(-1, 100)) {
			a, e := span.Look(l, x)
			is(t, "Look in a table that is not valid", a, e, api.Span{}, api.ErrArg)
		}
	}
	for _, x := range badSpans() {
		a, e := span.Look(steps(3), x)
		is(t, "Look at a span that is not valid", a, e, api.Span{}, api.ErrArg)
	}
}

func TestLook(t *testing.T) {
	rise := []api.Point{{At: 0, Value: ints(1, 2)}, {At: 10 * api.One, Value: ints(3, 6)}}
	// Both lines of tooth go up and down again, in the middle.
	tooth := []api.Point{{At: -api.One, Value: ints(0, 1)}, {At: 0, Value: ints(4, 8)}, {At: api.One, Value: ints(-2, -1)}, {At: 2 * api.One, Value: ints(-1, 0)}}
	third := []api.Point{{At: 0, Value: ints(0, 0)}, {At: 3, Value: raw(1, 1)}, {At: 6, Value: raw(-1, -1)}}
	half := api.One / 2
	for _, c := range []struct {
		l       []api.Point
		x, want api.Span
	}{
		{rise, ints(5, 20), ints(2, 6)},
		{rise, ints(-7, -7), ints(1, 2)},
		{rise, ints(-7, 5), ints(1, 4)},
		{rise, ints(0, 0), ints(1, 2)},
		{rise, ints(5, 5), ints(2, 4)},
		{rise, ints(10, 10), ints(3, 6)},
		{rise, ints(11, 12), ints(3, 6)},
		{rise, ints(-9, 99), ints(1, 6)},
		{rise, raw(-api.MostNum, -api.MostNum), ints(1, 2)},
		{rise, raw(api.MostNum, api.MostNum), ints(3, 6)},
		{rise, raw(-api.MostNum, api.MostNum), ints(1, 6)},
		{tooth, raw(-half, half), raw(1*api.One, 8*api.One)},
		{tooth, raw(-half, -half), raw(2*api.One, 9*half)},
		{tooth, raw(half, half), raw(api.One, 7*half)},
		{tooth, raw(half, 3*half), raw(-2*api.One, 7*half)},
		{tooth, raw(1, 2*api.One-1), raw(-2*api.One, 8*api.One-9)},
		{tooth, ints(-5, 5), ints(-2, 8)},
		{third, raw(1, 1), raw(0, 1)},
		{third, raw(2, 2), raw(0, 1)},
		{third, raw(4, 4), raw(0, 1)},
		{third, raw(5, 5), raw(-1, 0)},
		{third, raw(0, 6), raw(-1, 1)},
		{third, raw(1, 5), raw(-1, 1)},
		{steps(1), ints(-3, 3), ints(0, 0)},
		{points(5), raw(-api.MostNum, 4), ints(1, 2)},
	} {
		a, e := span.Look(c.l, c.x)
		is(t, "Look", a, e, c.want, api.OK)
	}
}

// exactLine returns what a line through points has at a place.
func exactLine(l []api.Point, pick func(a api.Span) api.Num, x *big.Rat) *big.Rat {
	if x.Cmp(exact(l[0].At)) <= 0 {
		return exact(pick(l[0].Value))
	}
	for i := 1; i < len(l); i++ {
		if x.Cmp(exact(l[i].At)) <= 0 {
			from, to := exact(l[i-1].At), exact(l[i].At)
			low, high := exact(pick(l[i-1].Value)), exact(pick(l[i].Value))
			slope := new(big.Rat).Quo(high.Sub(high, low), to.Sub(to, from))
			return low.Add(low, slope.Mul(slope, from.Sub(x, from)))
		}
	}
	return exact(pick(l[len(l)-1].Value))
}

// exactLook is Look in exact arithmetic.
func exactLook(l []api.Point, x api.Span) (api.Span, api.Errno) {
	places := []api.Num{x.Lo, x.Hi}
	for _, p := range l {
		if x.Lo < p.At && p.At < x.Hi {
			places = append(places, p.At)
		}
	}
	var low, high []*big.Rat
	for _, at := range places {
		low = append(low, exactLine(l, func(a api.Span) api.Num { return a.Lo }, exact(at)))
		high = append(high, exactLine(l, func(a api.Span) api.Num { return a.Hi }, exact(at)))
	}
	return rounded(append(low, high...)...)
}

// randomTable returns a valid table.
func randomTable(r *rand.Rand) []api.Point {
	part := func() api.Num {
		if r.IntN(9) == 0 {
			return api.MaxPart
		}
		return randomNum(r) / 4
	}
	var at []api.Num
	for range 1 + r.IntN(64) {
		at = append(at, part())
	}
	slices.Sort(at)
	var l []api.Point
	for _, n := range slices.Compact(at) {
		a, b := part(), -part()
		l = append(l, api.Point{At: n, Value: raw(min(a, b), max(a, b))})
	}
	return l
}

func TestLookIsRoundedOut(t *testing.T) {
	r := random()
	for range 80 {
		l := randomTable(r)
		if e := span.CheckTable(l); e != api.OK {
			t.Fatalf("CheckTable(%v) is %d", l, e)
		}
		spans := []api.Span{raw(-api.MostNum, api.MostNum), randomSpan(r), randomSpan(r)}
		for _, p := range l {
			spans = append(spans, raw(p.At, p.At), raw(p.At-1, p.At-1), raw(p.At, p.At+1), randomPart(r, raw(l[0].At, l[len(l)-1].At)))
		}
		for _, x := range spans {
			got, e := span.Look(l, x)
			want, f := exactLook(l, x)
			if got != want || e != f {
				t.Fatalf("Look(%v, %v): %v, error %d; want %v, error %d", l, x, got, e, want, f)
			}
		}
	}
}

// TestLookAtTheLimits looks in the widest tables, whose numbers are the greatest ones.
func TestLookAtTheLimits(t *testing.T) {
	const most = api.MaxPart
	for _, l := range [][]api.Point{
		{{At: -most, Value: raw(-most, most)}, {At: most, Value: raw(-most, most)}},
		{{At: -most, Value: raw(-most, -most)}, {At: most, Value: raw(most, most)}},
		{{At: -most, Value: raw(most, most)}, {At: most, Value: raw(-most, -most)}},
		{{At: -most, Value: raw(most-1, most)}, {At: -most + 1, Value: raw(-most, -most+1)}, {At: most, Value: raw(most, most)}},
	} {
		for _, x := range append(edgeSpans(), raw(-most, most), raw(-most+1, most-1), raw(-most-1, -most), raw(most, most+1)) {
			got, e := span.Look(l, x)
			want, f := exactLook(l, x)
			is(t, "Look in a wide table", got, e, want, f)
		}
	}
}
