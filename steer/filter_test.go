package steer_test

// P5.1 (filters) and P5.2 (steady).

import (
	"math"
	"math/big"
	"math/cmplx"
	"math/rand/v2"
	"slices"
	"testing"

	"ullage/api"
	"ullage/steer"
)

// factors returns the places of a section's numbers.
func factors(s *api.Section) [5]*api.Num {
	return [5]*api.Num{&s.B0, &s.B1, &s.B2, &s.A1, &s.A2}
}

// ranges returns the places of a loose section's spans.
func ranges(s *api.Loose) [5]*api.Span {
	return [5]*api.Span{&s.B0, &s.B1, &s.B2, &s.A1, &s.A2}
}

func TestCheckFilter(t *testing.T) {
	is(t, "no section", steer.CheckFilter(nil), 0, api.OK, 0)
	is(t, "no section", steer.CheckFilter([]api.Section{}), 0, api.OK, 0)
	for n := range 12 {
		want := api.OK
		if n > 8 {
			want = api.ErrLong
		}
		is(t, "sections", steer.CheckFilter(make([]api.Section, n)), 0, want, 0)
		for i := range n {
			for k := range 5 {
				for _, c := range []struct {
					n api.Num
					e api.Errno
				}{{1 << 34, api.OK}, {-1 << 34, api.OK}, {1<<34 + 1, api.ErrArg}, {-1<<34 - 1, api.ErrArg}, {api.MostNum, api.ErrArg}, {none, api.ErrArg}} {
					l := make([]api.Section, n)
					*factors(&l[i])[k] = c.n
					want := c.e
					if n > 8 {
						want = api.ErrLong
					}
					is(t, "a factor", steer.CheckFilter(l), 0, want, 0)
				}
			}
		}
	}
}

func TestRunByHand(t *testing.T) {
	half, one := api.One/2, api.One
	for _, c := range []struct {
		l       []api.Section
		x, want []api.Num
	}{
		{nil, []api.Num{3, -5, api.MostNum}, []api.Num{3, -5, api.MostNum}},
		{[]api.Section{{}}, []api.Num{3, -5, api.MostNum}, []api.Num{0, 0, 0}},
		{[]api.Section{{B0: one}}, []api.Num{3, -5, -api.MostNum}, []api.Num{3, -5, -api.MostNum}},
		{[]api.Section{{B1: one}}, []api.Num{3, -5, 7, 9}, []api.Num{0, 3, -5, 7}},
		{[]api.Section{{B2: one}}, []api.Num{3, -5, 7, 9}, []api.Num{0, 0, 3, -5}},
		{[]api.Section{{B0: one, A1: one}}, []api.Num{one, 0, 0, 0}, []api.Num{one, -one, one, -one}},
		{[]api.Section{{B0: one, A2: -2 * one}}, []api.Num{one, 0, 0, 0, 0}, []api.Num{one, 0, 2 * one, 0, 4 * one}},
		{[]api.Section{{B0: one, A1: -one, A2: -one}}, []api.Num{1, 0, 0, 0, 0, 0}, []api.Num{1, 1, 2, 3, 5, 8}},
		{[]api.Section{{B0: half}}, []api.Num{1, -1, 2, -2, 3, -3}, []api.Num{0, -1, 1, -1, 1, -2}},
		// Rounded once: two halves of 1 are 1, and not twice 0.
		{[]api.Section{{B0: half, B1: half}}, []api.Num{1, 1, -1, -1}, []api.Num{0, 1, 0, -1}},
		// The second section has what the first one makes, rounded down, as its samples.
		{[]api.Section{{B0: half}, {B0: 2 * one}}, []api.Num{1, -1, 3, -3}, []api.Num{0, -2, 2, -4}},
		{[]api.Section{{B0: 2 * one}, {B0: half}}, []api.Num{1, -1, 3, -3}, []api.Num{1, -1, 3, -3}},
		// A product may be greater than all numbers: only what a section makes has to be valid.
		{[]api.Section{{B0: one, B1: 4 * one, A1: 4 * one}}, []api.Num{api.MostNum, api.MostNum}, []api.Num{api.MostNum, api.MostNum}},
		{[]api.Section{{B1: 4 * one, B2: -3 * one}}, []api.Num{api.MostNum, api.MostNum, 0}, nil},
		// Exactly the greatest number, and a part more of it, which is rounded down.
		{[]api.Section{{B0: one, B1: one - 1}}, []api.Num{1, api.MostNum}, []api.Num{1, api.MostNum}},
		{[]api.Section{{B0: one, B1: one}}, []api.Num{1, api.MostNum}, nil},
		{[]api.Section{{B0: one, B1: one}}, []api.Num{-1, 1 - api.MostNum}, []api.Num{-1, -api.MostNum}},
		{[]api.Section{{B0: one, B1: one}}, []api.Num{-1, -api.MostNum}, nil},
		{[]api.Section{{B0: one, B1: 1}}, []api.Num{-1, -api.MostNum}, nil},
		{[]api.Section{{B0: 2 * one}}, []api.Num{1 << 62}, nil},
		{[]api.Section{{B0: 2 * one}}, []api.Num{-1 << 62}, nil},
		{[]api.Section{{B0: 4 * one}}, []api.Num{1 << 62}, nil},
		{[]api.Section{{B0: 4 * one}}, []api.Num{api.MostNum}, nil},
		{[]api.Section{{B0: -4 * one}}, []api.Num{api.MostNum}, nil},
		{[]api.Section{{B0: one, A1: -2 * one}}, append([]api.Num{one}, make([]api.Num, 31)...), nil},
	} {
		e := api.OK
		if c.want == nil {
			e = api.ErrRange
		}
		y, f := steer.Run(c.l, c.x)
		are(t, "Run", y, f, c.want, e)
	}
	y, e := steer.Run([]api.Section{{B0: one}}, nil)
	are(t, "no samples", y, e, nil, api.OK)
}

// exactRun returns what a filter makes of samples, section by section, each from its formula in integers of any size.
func exactRun(l []api.Section, x []api.Num) ([]api.Num, api.Errno) {
	for _, s := range l {
		y := make([]api.Num, len(x))
		for k := range x {
			sum := new(big.Int)
			take := func(factor, sign int64, from []api.Num, i int) {
				if i >= 0 {
					product := new(big.Int).Mul(big.NewInt(factor), big.NewInt(int64(from[i])))
					sum.Add(sum, product.Mul(product, big.NewInt(sign)))
				}
			}
			take(int64(s.B0), 1, x, k)
			take(int64(s.B1), 1, x, k-1)
			take(int64(s.B2), 1, x, k-2)
			take(int64(s.A1), -1, y, k-1)
			take(int64(s.A2), -1, y, k-2)
			sum.Div(sum, big.NewInt(int64(api.One)))
			if !sum.IsInt64() || sum.Int64() == int64(none) {
				return nil, api.ErrRange
			}
			y[k] = api.Num(sum.Int64())
		}
		x = y
	}
	return x, api.OK
}

// randomFilter returns a filter, often one that forgets its past.
func randomFilter(r *rand.Rand) []api.Section {
	var l []api.Section
	for range r.IntN(9) {
		var s api.Section
		most := api.MaxFactor >> r.IntN(12)
		for _, n := range factors(&s) {
			if r.IntN(4) > 0 {
				*n = upTo(r, most)
			}
		}
		if r.IntN(2) == 0 {
			s.A1, s.A2 = s.A1%api.One, s.A2%(api.One/2)
		}
		l = append(l, s)
	}
	return l
}

// randomSamples returns samples of any size.
func randomSamples(r *rand.Rand, n int) []api.Num {
	var x []api.Num
	most := api.MostNum >> r.IntN(6)
	if r.IntN(2) == 0 {
		most >>= r.IntN(54)
	}
	for range n {
		switch r.IntN(5) {
		case 0:
			x = append(x, most)
		case 1:
			x = append(x, -most)
		default:
			x = append(x, inside(r, raw(-most, most)))
		}
	}
	return x
}

func TestRun(t *testing.T) {
	r := random()
	counts := map[api.Errno]int{}
	for range 6000 {
		l, x := randomFilter(r), randomSamples(r, r.IntN(24))
		want, e := exactRun(l, x)
		y, f := steer.Run(l, x)
		are(t, "Run", y, f, want, e)
		counts[e]++
	}
	if counts[api.OK] < 2000 || counts[api.ErrRange] < 200 {
		t.Errorf("the errors are %v", counts)
	}
}

// TestRunAtTheLimit makes numbers around the greatest and the least one.
func TestRunAtTheLimit(t *testing.T) {
	r := random()
	counts := map[api.Errno]int{}
	for range 4000 {
		by := 1 + api.Num(r.Int64N(4*int64(api.One)))
		sign := api.Num(1 - 2*r.IntN(2))
		last := sign * (api.MostNum - by)
		l := []api.Section{{B0: api.One, B1: sign * (by + api.Num(r.IntN(7)-3)), B2: upTo(r, 3)}}
		x := []api.Num{upTo(r, 3), api.One + upTo(r, 2), last}
		want, e := exactRun(l, x)
		y, f := steer.Run(l, x)
		are(t, "Run", y, f, want, e)
		counts[e]++
	}
	if counts[api.OK] < 1000 || counts[api.ErrRange] < 1000 {
		t.Errorf("the errors are %v", counts)
	}
}

func TestRunErrors(t *testing.T) {
	bad := api.Section{A2: api.MaxFactor + 1}
	tooLoud := api.Section{B0: 2 * api.One}
	loud := func(n int) []api.Num { return slices.Repeat([]api.Num{api.MostNum}, n) }
	for _, c := range []struct {
		l []api.Section
		x []api.Num
		e api.Errno
	}{
		{make([]api.Section, 8), loud(1024), api.OK},
		{make([]api.Section, 9), nil, api.ErrLong},
		{append(make([]api.Section, 8), bad), []api.Num{none}, api.ErrLong},
		{[]api.Section{bad}, loud(1025), api.ErrArg},
		{[]api.Section{bad}, loud(1), api.ErrArg},
		{[]api.Section{bad}, nil, api.ErrArg},
		{nil, loud(1024), api.OK},
		{nil, loud(1025), api.ErrLong},
		{[]api.Section{tooLoud}, loud(1025), api.ErrLong},
		{nil, append(loud(1024), none), api.ErrLong},
		{nil, append(loud(1023), none), api.ErrArg},
		{nil, []api.Num{none}, api.ErrArg},
		{[]api.Section{tooLoud}, []api.Num{api.MostNum, none}, api.ErrArg},
		{[]api.Section{tooLoud}, []api.Num{0, api.MostNum}, api.ErrRange},
		{[]api.Section{tooLoud, {}}, []api.Num{0, 0, -api.MostNum}, api.ErrRange},
		{[]api.Section{{}, tooLoud}, []api.Num{api.MostNum}, api.OK},
	} {
		y, e := steer.Run(c.l, c.x)
		if e != c.e || e != api.OK && len(y) != 0 || e == api.OK && len(y) != len(c.x) {
			t.Errorf("%v of %d samples: %d, error %d; want the error %d", c.l, len(c.x), len(y), e, c.e)
		}
	}
}

// exactReach returns the spans in which what loose sections make is, section by section.
func exactReach(l []api.Loose, x []api.Span) ([]api.Span, api.Errno) {
	var s sheet
	for _, c := range l {
		y := make([]api.Span, len(x))
		before := func(from []api.Span, i int) api.Span {
			if i < 0 {
				return at(0)
			}
			return from[i]
		}
		for k := range x {
			in := s.plus(s.times(c.B0, x[k]), s.times(c.B1, before(x, k-1)))
			in = s.plus(in, s.times(c.B2, before(x, k-2)))
			y[k] = s.minus(in, s.times(c.A1, before(y, k-1)))
			y[k] = s.minus(y[k], s.times(c.A2, before(y, k-2)))
		}
		x = y
	}
	if s.e != api.OK {
		return nil, s.e
	}
	return x, api.OK
}

// randomLoose returns loose sections around some others.
func randomLoose(r *rand.Rand, l []api.Section) []api.Loose {
	var out []api.Loose
	for _, s := range l {
		var c api.Loose
		width := api.One >> r.IntN(33)
		for i, n := range factors(&s) {
			a := around(r, *n, width)
			*ranges(&c)[i] = raw(max(a.Lo, -api.MaxFactor), min(a.Hi, api.MaxFactor))
		}
		out = append(out, c)
	}
	return out
}

// randomSpans returns spans around samples.
func randomSpans(r *rand.Rand, x []api.Num) []api.Span {
	var out []api.Span
	width := api.One >> r.IntN(33)
	for _, n := range x {
		width := min(width, api.MostNum-max(n, -n))
		out = append(out, around(r, n, width))
	}
	return out
}

func TestReach(t *testing.T) {
	r := random()
	counts := map[api.Errno]int{}
	for range 1500 {
		l := randomLoose(r, randomFilter(r))
		x := randomSpans(r, randomSamples(r, r.IntN(12)))
		want, e := exactReach(l, x)
		y, f := steer.Reach(l, x)
		are(t, "Reach", y, f, want, e)
		counts[e]++
	}
	if counts[api.OK] < 500 || counts[api.ErrRange] < 50 {
		t.Errorf("the errors are %v", counts)
	}
}

func TestReachByHand(t *testing.T) {
	one := at(api.One)
	for _, c := range []struct {
		l       []api.Loose
		x, want []api.Span
	}{
		{nil, []api.Span{ints(1, 2), at(-api.MostNum)}, []api.Span{ints(1, 2), at(-api.MostNum)}},
		{[]api.Loose{{}}, []api.Span{ints(1, 2), at(-api.MostNum)}, points(0, 0)},
		{[]api.Loose{{B0: ints(1, 2)}}, []api.Span{ints(1, 3), ints(-3, -1)}, []api.Span{ints(1, 6), ints(-6, -1)}},
		{[]api.Loose{{B1: ints(1, 2)}}, []api.Span{ints(1, 3), ints(-3, -1), ints(0, 0)}, []api.Span{ints(0, 0), ints(1, 6), ints(-6, -1)}},
		{[]api.Loose{{B2: ints(1, 2)}}, []api.Span{ints(1, 3), ints(-3, -1), ints(0, 0)}, []api.Span{ints(0, 0), ints(0, 0), ints(1, 6)}},
		{[]api.Loose{{B0: one, A1: ints(1, 2)}}, []api.Span{one, ints(0, 0), ints(0, 0)}, []api.Span{one, ints(-2, -1), ints(1, 4)}},
		{[]api.Loose{{B0: one, A2: ints(1, 2)}}, []api.Span{one, ints(0, 0), ints(0, 0)}, []api.Span{one, ints(0, 0), ints(-2, -1)}},
		{[]api.Loose{{B0: one, A1: at(-api.One), A2: at(-api.One)}}, points(1, 0, 0, 0, 0, 0), points(1, 1, 2, 3, 5, 8)},
		{[]api.Loose{{B0: at(api.One / 2)}, {B0: ints(2, 2)}}, []api.Span{at(1), at(-1)}, []api.Span{raw(0, 2), raw(-2, 0)}},
		// Each product is rounded, unlike those of Run.
		{[]api.Loose{{B0: at(api.One / 2), B1: at(api.One / 2)}}, []api.Span{at(1), at(1)}, []api.Span{raw(0, 1), raw(0, 2)}},
		// An operation in between does not fit.
		{[]api.Loose{{B0: ints(4, 4), B1: ints(-4, -4)}}, []api.Span{at(1 << 60), at(1 << 61)}, nil},
		{[]api.Loose{{B0: one, B1: one, B2: ints(-1, -1)}}, []api.Span{at(1), at(1), at(api.MostNum)}, nil},
		{[]api.Loose{{B0: one, B1: ints(-1, -1), B2: one}}, []api.Span{at(1), at(1), at(api.MostNum)}, []api.Span{at(1), at(0), at(api.MostNum)}},
		{[]api.Loose{{B0: one, A1: ints(-1, -1), A2: one}}, []api.Span{at(1), at(0), at(api.MostNum)}, nil},
		{[]api.Loose{{B0: one, A1: one, A2: ints(-2, -2)}}, []api.Span{at(1), at(3), at(api.MostNum)}, []api.Span{at(1), at(2), at(api.MostNum)}},
		{[]api.Loose{{B0: one, B1: one, A1: one}}, []api.Span{at(1), at(api.MostNum)}, nil},
		{[]api.Loose{{B0: one, B2: one, A1: one}}, []api.Span{at(0), at(1), at(api.MostNum)}, []api.Span{at(0), at(1), at(api.MostNum - 1)}},
	} {
		e := api.OK
		if c.want == nil {
			e = api.ErrRange
		}
		y, f := steer.Reach(c.l, c.x)
		are(t, "Reach", y, f, c.want, e)
	}
	y, e := steer.Reach([]api.Loose{{B0: one}}, nil)
	are(t, "no samples", y, e, nil, api.OK)
}

func TestReachErrors(t *testing.T) {
	tooLoud := api.Loose{B0: ints(2, 2)}
	loud := func(n int) []api.Span { return slices.Repeat([]api.Span{at(api.MostNum)}, n) }
	var bad []api.Loose
	for k := range 5 {
		for _, a := range append(badSpans(), raw(0, api.MaxFactor+1), raw(-api.MaxFactor-1, 0), at(api.MostNum)) {
			var s api.Loose
			*ranges(&s)[k] = a
			bad = append(bad, s)
		}
	}
	type list struct {
		l []api.Loose
		x []api.Span
		e api.Errno
	}
	cases := []list{
		{make([]api.Loose, 8), loud(1024), api.OK},
		{make([]api.Loose, 9), nil, api.ErrLong},
		{make([]api.Loose, 9), []api.Span{raw(1, 0)}, api.ErrLong},
		{nil, loud(1024), api.OK},
		{nil, loud(1025), api.ErrLong},
		{nil, append(loud(1024), raw(1, 0)), api.ErrLong},
		{[]api.Loose{tooLoud}, loud(1025), api.ErrLong},
		{[]api.Loose{tooLoud}, loud(1), api.ErrRange},
		{[]api.Loose{tooLoud, {}}, append(points(0, 0), at(-api.MostNum)), api.ErrRange},
		{[]api.Loose{{}, tooLoud}, loud(3), api.OK},
		{[]api.Loose{{B0: raw(-api.MaxFactor, api.MaxFactor), B1: raw(-api.MaxFactor, api.MaxFactor), B2: raw(-api.MaxFactor, api.MaxFactor), A1: raw(-api.MaxFactor, api.MaxFactor), A2: raw(-api.MaxFactor, api.MaxFactor)}}, points(1, 1, 1), api.OK},
	}
	for _, s := range bad {
		cases = append(cases, list{[]api.Loose{s}, nil, api.ErrArg}, list{[]api.Loose{tooLoud, s}, loud(1), api.ErrArg}, list{[]api.Loose{s}, loud(1025), api.ErrLong}, list{append(make([]api.Loose, 8), s), nil, api.ErrLong})
	}
	for _, a := range badSpans() {
		cases = append(cases, list{nil, []api.Span{a}, api.ErrArg}, list{nil, []api.Span{at(0), at(1), a}, api.ErrArg}, list{[]api.Loose{tooLoud}, append(loud(1023), a), api.ErrArg})
	}
	for _, c := range cases {
		y, e := steer.Reach(c.l, c.x)
		if e != c.e || e != api.OK && len(y) != 0 || e == api.OK && len(y) != len(c.x) {
			t.Errorf("%v of %d spans: %d, error %d; want the error %d", c.l, len(c.x), len(y), e, c.e)
		}
	}
}

// TestReachHasRun checks P5.10: what sections of loose ones make of samples in spans is in the spans of Reach.
func TestReachHasRun(t *testing.T) {
	r := random()
	runs := 0
	for range 4000 {
		loose := randomLoose(r, randomFilter(r))
		spans := randomSpans(r, randomSamples(r, r.IntN(16)))
		z, e := steer.Reach(loose, spans)
		if e != api.OK {
			continue
		}
		for range 8 {
			l := make([]api.Section, len(loose))
			for i := range l {
				for k, a := range ranges(&loose[i]) {
					*factors(&l[i])[k] = inside(r, *a)
				}
			}
			var x []api.Num
			for _, a := range spans {
				x = append(x, inside(r, a))
			}
			y, e := steer.Run(l, x)
			if e != api.OK {
				t.Fatalf("%v of %v has the error %d", l, x, e)
			}
			for k, n := range y {
				runs++
				if n < z[k].Lo || n > z[k].Hi {
					t.Fatalf("%v of %v: sample %d is %d, not in %v", l, x, k, n, z[k])
				}
			}
		}
	}
	if runs < 50000 {
		t.Errorf("only %d samples have been made", runs)
	}
}

// exactSteady evaluates the formulas of Steady.
func exactSteady(a1, a2 api.Span) int {
	if !isValid(a1, a2) {
		return 0
	}
	var s sheet
	one := at(api.One)
	least, most := api.MostNum, api.MostNum
	for _, a := range []api.Span{s.minus(one, a2), s.plus(s.plus(one, a1), a2), s.plus(s.minus(one, a1), a2)} {
		least, most = min(least, a.Lo), min(most, a.Hi)
	}
	switch {
	case s.e != api.OK:
		return 0
	case least > 0:
		return 1
	case most < 0:
		return -1
	}
	return 0
}

func TestSteady(t *testing.T) {
	half, one := at(api.One/2), at(api.One)
	big := raw(0, api.MostNum)
	for _, c := range []struct {
		a1, a2 api.Span
		want   int
	}{
		{at(-api.One / 2), at(0), 1},
		{ints(-2, -2), half, -1},
		{at(-api.One), at(0), 0},
		{at(0), at(0), 1},
		{at(0), one, 0},
		{at(0), at(api.One - 1), 1},
		{at(0), at(api.One + 1), -1},
		{at(0), at(-api.One), 0},
		{at(0), at(1 - api.One), 1},
		{at(0), at(-api.One - 1), -1},
		{one, at(0), 0},
		{at(api.One - 1), at(0), 1},
		{at(api.One + 1), at(0), -1},
		{at(1 - api.One), at(0), 1},
		{at(-api.One - 1), at(0), -1},
		{ints(2, 2), one, 0},
		{ints(-2, -2), one, 0},
		{ints(3, 3), half, -1},
		// Ranges: all, none, or some of them.
		{raw(-api.One/2, api.One/2), raw(-api.One/4, api.One/4), 1},
		{raw(-api.One/2, api.One/2), raw(-api.One/2, api.One/4), 0},
		{ints(-1, 1), ints(2, 3), -1},
		{ints(-1, 1), ints(-1, 2), 0},
		{ints(4, 5), ints(-1, 1), -1},
		{ints(-5, -4), ints(-1, 1), -1},
		// An operation that does not fit, although another one is surely below 0.
		{at(0), at(-api.MostNum), 0},
		{at(-api.MostNum), at(-api.One - 2), 0},
		{at(api.MostNum), at(-api.One - 2), 0},
		{at(api.MostNum), at(2 * api.One), 0},
		{at(api.MostNum), at(-api.One), 0},
		{at(-api.MostNum), at(-api.One), 0},
		{at(0), big, 0},
		{at(0), raw(2*api.One, api.MostNum), 0},
		{at(0), raw(2*api.One, api.MostNum-api.One), -1},
		{at(0), raw(2*api.One, api.MostNum-api.One+1), 0},
		{at(0), raw(api.One-api.MostNum, -2*api.One), -1},
		{at(0), raw(api.One-api.MostNum-1, -2*api.One), 0},
	} {
		if v := steer.Steady(c.a1, c.a2); v != c.want {
			t.Errorf("Steady(%v, %v): %d, want %d", c.a1, c.a2, v, c.want)
		}
	}
	for _, a := range badSpans() {
		if steer.Steady(a, at(0)) != 0 || steer.Steady(at(0), a) != 0 || steer.Steady(a, ints(3, 3)) != 0 || steer.Steady(ints(5, 5), a) != 0 {
			t.Errorf("Steady of %v is not 0", a)
		}
	}
}

func TestSteadyOfMany(t *testing.T) {
	r := random()
	counts := map[int]int{}
	for range 20000 {
		width := api.One >> r.IntN(33)
		a1, a2 := around(r, upTo(r, 3*api.One), width), around(r, upTo(r, 2*api.One), width)
		if r.IntN(4) == 0 {
			a1, a2 = anySpan(r), anySpan(r)
		}
		v := steer.Steady(a1, a2)
		if want := exactSteady(a1, a2); v != want {
			t.Fatalf("Steady(%v, %v): %d, want %d", a1, a2, v, want)
		}
		counts[v]++
	}
	if counts[1] < 1000 || counts[-1] < 1000 || counts[0] < 1000 {
		t.Errorf("the results are %v", counts)
	}
}

// TestSteadyForgets checks what Steady says with the roots of z z + A1 z + A2: a section forgets its past if both are less than 1 from 0.
func TestSteadyForgets(t *testing.T) {
	r := random()
	for range 20000 {
		width := api.One >> r.IntN(33)
		a1, a2 := around(r, upTo(r, 3*api.One), width), around(r, upTo(r, 2*api.One), width)
		v := steer.Steady(a1, a2)
		b, c := float64(inside(r, a1))/float64(api.One), float64(inside(r, a2))/float64(api.One)
		root := cmplx.Sqrt(complex(b*b-4*c, 0))
		far := max(cmplx.Abs((complex(-b, 0)+root)/2), cmplx.Abs((complex(-b, 0)-root)/2))
		if math.Abs(far-1) > 1e-6 && v != 0 && (v == 1) != (far < 1) {
			t.Errorf("Steady(%v, %v) is %d, but a root of %g, %g is %g from 0", a1, a2, v, b, c, far)
		}
	}
}
