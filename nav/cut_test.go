package nav_test

// P6.2: cuts.

import (
	"testing"

	"ullage/api"
	"ullage/nav"
)

// cutCase is a box that is cut, and what is left of it.
type cutCase struct {
	what   string
	before api.Box
	m      api.Radio
	after  api.Box
	e      api.Errno
}

// checkCuts cuts the place, or the velocity, of a state. The rest must stay.
func checkCuts(t *testing.T, l []cutCase, state func(api.Box) api.State) {
	t.Helper()
	for _, c := range l {
		want := state(c.after)
		if c.e != api.OK {
			want = api.State{}
		}
		got, e := nav.Cut(state(c.before), c.m)
		is(t, c.what, got, e, want, c.e)
	}
}

// placed returns a state with a place.
func placed(p api.Box) api.State {
	return api.State{T: 7, P: p, V: api.Box{ints(-9, 9), ints(0, 1), ints(2, 3)}, M: ints(4, 5)}
}

// moving returns a state with a velocity, at the place (0, 0, 2).
func moving(v api.Box) api.State {
	return api.State{T: -7, P: box(0, 0, 2), V: v, M: ints(4, 5)}
}

// TestCutByDistance cuts places by distances.
func TestCutByDistance(t *testing.T) {
	zero, all := ints(0, 0), raw(-api.MostNum, api.MostNum)
	from := func(x, y, z int, value api.Span) api.Radio {
		return api.Radio{From: box(x, y, z), Dir: box(1, 1, 1), Value: value}
	}
	edge := raw(api.MostNum-2*api.One, api.MostNum)
	far := api.Box{at(api.MostNum), zero, zero}
	checkCuts(t, []cutCase{
		{"both sides", api.Box{ints(-10, 10), zero, zero}, from(0, 0, 0, ints(3, 5)), api.Box{ints(-5, 5), zero, zero}, api.OK},
		{"one side", api.Box{ints(1, 10), zero, zero}, from(0, 0, 0, ints(3, 5)), api.Box{ints(3, 5), zero, zero}, api.OK},
		{"the other side", api.Box{ints(-10, 2), zero, zero}, from(0, 0, 0, ints(3, 5)), api.Box{ints(-5, -3), zero, zero}, api.OK},
		{"a bit of the other side", api.Box{ints(-3, 10), zero, zero}, from(0, 0, 0, ints(3, 5)), api.Box{ints(-3, 5), zero, zero}, api.OK},
		{"no side", api.Box{ints(0, 1), zero, zero}, from(0, 0, 0, ints(3, 5)), api.Box{}, api.ErrNone},
		{"between the sides", api.Box{ints(-2, 2), zero, zero}, from(0, 0, 0, ints(3, 5)), api.Box{}, api.ErrNone},
		{"y", api.Box{zero, ints(-10, 2), zero}, from(0, 0, 0, ints(3, 5)), api.Box{zero, ints(-5, -3), zero}, api.OK},
		{"z", api.Box{zero, zero, ints(-10, 2)}, from(0, 0, 0, ints(3, 5)), api.Box{zero, zero, ints(-5, -3)}, api.OK},
		{"from elsewhere", api.Box{ints(0, 20), ints(7, 7), zero}, from(20, 3, 0, ints(5, 5)), api.Box{ints(17, 17), ints(7, 7), zero}, api.OK},
		{"from a box", api.Box{ints(0, 20), zero, zero}, api.Radio{From: api.Box{ints(-1, 1), zero, zero}, Value: ints(3, 5)}, api.Box{ints(2, 6), zero, zero}, api.OK},
		{"a distance of 0", api.Box{ints(-9, 9), ints(0, 4), ints(2, 2)}, from(1, 2, 2, zero), box(1, 2, 2), api.OK},
		{"a corner", api.Box{ints(0, 8), ints(0, 6), zero}, from(0, 0, 0, ints(10, 10)), box(8, 6, 0), api.OK},
		{"all three", api.Box{ints(-9, 9), ints(0, 9), ints(1, 9)}, from(0, 0, 0, ints(0, 1)), api.Box{zero, zero, ints(1, 1)}, api.OK},
		{"another one that is too far away", api.Box{ints(-9, 9), ints(6, 7), zero}, from(0, 0, 0, ints(3, 5)), api.Box{}, api.ErrNone},
		{"a root that is rounded out", api.Box{ints(0, 8), ints(1, 1), zero}, from(0, 0, 0, ints(2, 2)), api.Box{raw(7439101573, 7439101574), ints(1, 1), zero}, api.OK},
		{"a value of which a part is negative", api.Box{ints(-9, 9), zero, zero}, from(0, 0, 0, ints(-8, 5)), api.Box{ints(-5, 5), zero, zero}, api.OK},
		{"a negative value", api.Box{ints(-9, 9), zero, zero}, from(0, 0, 0, ints(-8, -1)), api.Box{}, api.ErrNone},
		{"a negative value of a place that is too far away", far, from(-1, 0, 0, ints(-8, -1)), api.Box{}, api.ErrNone},
		{"a place that is too far away", far, from(-1, 0, 0, all), api.Box{}, api.ErrRange},
		{"a place of which the square does not fit", far, from(0, 0, 0, ints(0, 9)), api.Box{}, api.ErrRange},
		{"a value of which the square fits", api.Box{ints(0, 46340), zero, zero}, from(0, 0, 0, ints(0, 46340)), api.Box{ints(0, 46340), zero, zero}, api.OK},
		{"a value of which the square does not fit", api.Box{ints(0, 1), zero, zero}, from(0, 0, 0, ints(0, 46341)), api.Box{}, api.ErrRange},
		{"squares whose sum does not fit", api.Box{zero, ints(40000, 40000), ints(40000, 40000)}, from(0, 0, 0, ints(0, 9)), api.Box{}, api.ErrRange},
		{"a place that does not fit behind the cut", api.Box{edge, zero, zero}, api.Radio{From: api.Box{edge, zero, zero}, Value: ints(0, 1)}, api.Box{}, api.ErrRange},
	}, placed)
}

// TestCutBySum cuts places by products with directions.
func TestCutBySum(t *testing.T) {
	zero, four := ints(0, 0), ints(0, 4)
	tiny, huge := at(1), raw(-api.MostNum, api.MostNum)
	wide := ints(-1<<20, 1<<20)
	checkCuts(t, []cutCase{
		{"x and y", api.Box{four, four, zero}, along(2, 1, 1, 0, ints(7, 9)), api.Box{ints(3, 4), ints(3, 4), zero}, api.OK},
		{"y and z", api.Box{four, four, four}, along(2, 0, 1, -1, ints(-5, -3)), api.Box{four, ints(0, 1), ints(3, 4)}, api.OK},
		{"all three", api.Box{four, four, four}, along(2, 2, 1, 1, ints(15, 20)), api.Box{raw(7*api.One/2, 4*api.One), ints(3, 4), ints(3, 4)}, api.OK},
		{"factors that are spans", api.Box{ints(1, 9), zero, zero}, api.Radio{Kind: 2, Dir: api.Box{ints(1, 2), zero, zero}, Value: ints(4, 6)}, api.Box{ints(2, 6), zero, zero}, api.OK},
		{"a factor that may be 0", api.Box{ints(0, 9), four, zero}, api.Radio{Kind: 2, Dir: api.Box{ints(0, 1), ints(1, 1), zero}, Value: ints(2, 2)}, api.Box{ints(0, 9), ints(0, 2), zero}, api.OK},
		{"a factor that may be 0 or less", api.Box{four, four, zero}, api.Radio{Kind: 2, Dir: api.Box{ints(-1, 0), ints(-1, -1), zero}, Value: ints(-5, -5)}, api.Box{four, ints(1, 4), zero}, api.OK},
		{"a quotient that is rounded out", api.Box{four, zero, zero}, along(2, 3, 0, 0, ints(1, 1)), api.Box{raw(1431655765, 1431655766), zero, zero}, api.OK},
		{"a quotient that is too great", api.Box{four, zero, zero}, api.Radio{Kind: 2, Dir: api.Box{tiny, zero, zero}, Value: raw(0, api.One)}, api.Box{four, zero, zero}, api.OK},
		{"a quotient that is too great, and no common sum", api.Box{four, zero, zero}, api.Radio{Kind: 2, Dir: api.Box{tiny, zero, zero}, Value: ints(1, 1)}, api.Box{}, api.ErrNone},
		{"only zeros, and a sum of 0", api.Box{four, four, four}, along(2, 0, 0, 0, ints(0, 1)), api.Box{four, four, four}, api.OK},
		{"only zeros, and another sum", api.Box{four, four, four}, along(2, 0, 0, 0, ints(1, 2)), api.Box{}, api.ErrNone},
		{"nothing left of x", api.Box{four, four, zero}, along(2, 1, 1, 0, ints(9, 9)), api.Box{}, api.ErrNone},
		{"no common sum", api.Box{four, zero, zero}, api.Radio{Kind: 2, Dir: api.Box{ints(-1, 1), zero, zero}, Value: ints(5, 6)}, api.Box{}, api.ErrNone},
		{"a common sum", api.Box{four, zero, zero}, api.Radio{Kind: 2, Dir: api.Box{ints(-1, 1), zero, zero}, Value: ints(4, 6)}, api.Box{four, zero, zero}, api.OK},
		{"a product that is too great at x", api.Box{zero, wide, zero}, along(2, 0, 1<<20, 0, zero), api.Box{}, api.ErrRange},
		{"a product that would be too great, but is cut before", api.Box{wide, zero, zero}, along(2, 1, 0, 0, ints(1, 2)), api.Box{ints(1, 2), zero, zero}, api.OK},
		{"a sum of products that is too great", api.Box{zero, huge, huge}, along(2, 0, 1, 1, zero), api.Box{}, api.ErrRange},
		{"a difference that is too great", api.Box{zero, ints(1, 1), zero}, along(2, 0, -1, 0, at(api.MostNum)), api.Box{}, api.ErrRange},
		{"a value from elsewhere", api.Box{four, zero, zero}, api.Radio{Kind: 2, Dir: box(1, 0, 0), From: box(9, 9, 9), Value: ints(3, 9)}, api.Box{ints(3, 4), zero, zero}, api.OK},
	}, placed)
}

// TestCutVelocity cuts velocities, by products with directions and by the speed away from a place.
func TestCutVelocity(t *testing.T) {
	nine := ints(-9, 9)
	away := func(value api.Span) api.Radio {
		return api.Radio{Kind: 1, Value: value}
	}
	behind := func(p api.Box) func(api.Box) api.State {
		return func(v api.Box) api.State {
			s := moving(v)
			s.P = p
			return s
		}
	}
	checkCuts(t, []cutCase{
		{"a product", api.Box{nine, nine, nine}, along(3, 0, 2, 0, ints(1, 4)), api.Box{nine, raw(api.One/2, 2*api.One), nine}, api.OK},
		{"no common product", api.Box{nine, nine, nine}, along(3, 0, 0, 0, ints(1, 4)), api.Box{}, api.ErrNone},
		{"a product that is too great", api.Box{nine, at(api.MostNum), nine}, along(3, 0, 2, 0, ints(1, 4)), api.Box{}, api.ErrRange},
		{"a speed", api.Box{nine, nine, nine}, away(ints(3, 4)), api.Box{nine, nine, ints(3, 4)}, api.OK},
		{"a speed back", api.Box{nine, nine, nine}, away(ints(-4, -3)), api.Box{nine, nine, ints(-4, -3)}, api.OK},
		{"a speed from elsewhere", api.Box{nine, nine, nine}, api.Radio{Kind: 1, From: box(0, 5, 2), Value: ints(3, 4)}, api.Box{nine, ints(-4, -3), nine}, api.OK},
		{"a speed that is too great", api.Box{nine, nine, nine}, away(ints(10, 11)), api.Box{}, api.ErrNone},
		{"a speed away from the place itself", api.Box{nine, nine, nine}, api.Radio{Kind: 1, From: box(0, 0, 2), Value: ints(9, 9)}, api.Box{nine, nine, nine}, api.OK},
		{"a distance times a speed that does not fit", api.Box{nine, nine, nine}, away(at(api.MostNum)), api.Box{}, api.ErrRange},
	}, moving)
	checkCuts(t, []cutCase{
		{"a speed at places", api.Box{ints(0, 0), nine, ints(0, 0)}, away(ints(2, 2)), api.Box{ints(0, 0), ints(1, 4), ints(0, 0)}, api.OK},
		{"a speed from too far away", api.Box{nine, nine, nine}, api.Radio{Kind: 1, From: api.Box{at(0), at(0), at(-api.MostNum)}, Value: ints(2, 2)}, api.Box{}, api.ErrRange},
	}, behind(api.Box{ints(0, 0), ints(1, 2), ints(0, 0)}))
}

// TestCutOfBad checks states and measurements that are not valid.
func TestCutOfBad(t *testing.T) {
	for _, s := range badStates() {
		for kind := range 4 {
			got, e := nav.Cut(s, along(kind, 1, 1, 1, ints(0, 1)))
			is(t, "a state that is not valid", got, e, api.State{}, api.ErrArg)
		}
	}
	for _, m := range badRadios() {
		got, e := nav.Cut(somewhere(), m)
		is(t, "a measurement that is not valid", got, e, api.State{}, api.ErrArg)
	}
}

// TestCutsExactly holds cuts against the chapter's formulas.
func TestCutsExactly(t *testing.T) {
	r := random()
	errors := [4]map[api.Errno]int{{}, {}, {}, {}}
	cutAtAll := [4]int{}
	for range 40000 {
		c := randomScene(r)
		for _, m := range c.l {
			want, f := xCut(c.s, m)
			got, e := nav.Cut(c.s, m)
			is(t, "a cut", got, e, want, f)
			errors[m.Kind][f]++
			if f == api.OK && want != c.s {
				cutAtAll[m.Kind]++
			}
		}
	}
	for kind, l := range errors {
		for _, e := range []api.Errno{api.OK, api.ErrNone, api.ErrRange} {
			if l[e] < 300 {
				t.Errorf("only %d cuts of kind %d have the error %d", l[e], kind, e)
			}
		}
		if cutAtAll[kind] < 1000 {
			t.Errorf("only %d cuts of kind %d cut something", cutAtAll[kind], kind)
		}
	}
}
