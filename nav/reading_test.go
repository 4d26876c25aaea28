package nav_test

// P6.1: readings.

import (
	"testing"

	"ullage/api"
	"ullage/nav"
)

// TestCheckRadio checks which measurements are valid.
func TestCheckRadio(t *testing.T) {
	all := raw(-api.MostNum, api.MostNum)
	for kind := range 4 {
		for _, m := range []api.Radio{{Kind: kind}, {Kind: kind, From: api.Box{all, all, all}, Dir: api.Box{all, all, all}, Value: all}, {Kind: kind, Value: raw(-2, -1)}} {
			if e := nav.CheckRadio(m); e != api.OK {
				t.Errorf("%+v has the error %d", m, e)
			}
		}
	}
	for _, m := range badRadios() {
		if e := nav.CheckRadio(m); e != api.ErrArg {
			t.Errorf("%+v has the error %d", m, e)
		}
	}
}

// TestReadingByHand checks readings of which the values, or the errors, are known.
func TestReadingByHand(t *testing.T) {
	s := api.State{P: box(3, 4, 12), V: box(0, 0, 13), M: ints(1, 1)}
	wide := api.State{P: api.Box{ints(-3, 1), ints(0, 0), ints(4, 4)}, V: api.Box{ints(-1, 2), ints(0, 0), ints(0, 5)}, M: ints(1, 1)}
	far := api.State{P: api.Box{at(api.MostNum), ints(0, 0), ints(0, 0)}, V: box(1, 0, 0), M: ints(1, 1)}
	fast := api.State{P: box(1<<16, 0, 0), V: box(1<<16, 0, 0), M: ints(1, 1)}
	long := api.Box{at(api.MostNum), at(api.MostNum), at(0)}
	for _, c := range []struct {
		what string
		s    api.State
		m    api.Radio
		want api.Span
		e    api.Errno
	}{
		{"a distance from 0", s, api.Radio{}, ints(13, 13), api.OK},
		{"a distance from elsewhere", s, api.Radio{From: box(3, 1, 8)}, ints(5, 5), api.OK},
		{"a distance from the place itself", s, api.Radio{From: s.P}, ints(0, 0), api.OK},
		{"distances", wide, api.Radio{}, ints(4, 5), api.OK},
		{"distances from a box", s, api.Radio{From: api.Box{ints(3, 3), ints(0, 4), ints(9, 12)}}, ints(0, 5), api.OK},
		{"a distance that is no integer", s, api.Radio{From: box(2, 3, 12)}, raw(6074000999, 6074001000), api.OK},
		{"a distance that is too great", far, api.Radio{From: box(-1, 0, 0)}, api.Span{}, api.ErrRange},
		{"a distance whose square is too great", far, api.Radio{}, api.Span{}, api.ErrRange},
		{"a speed away", s, api.Radio{Kind: 1}, ints(12, 12), api.OK},
		{"a speed back", s, api.Radio{Kind: 1, From: box(3, 4, 13)}, ints(-13, -13), api.OK},
		{"a speed away from the place itself", s, api.Radio{Kind: 1, From: s.P}, api.Span{}, api.ErrZero},
		{"a speed away from a box around the place", s, api.Radio{Kind: 1, From: api.Box{ints(0, 9), ints(0, 9), ints(0, 19)}}, api.Span{}, api.ErrZero},
		{"speeds away", wide, api.Radio{Kind: 1}, raw(-6*api.One/4, 23*api.One/4), api.OK},
		{"a speed away from too far", far, api.Radio{Kind: 1, From: box(-1, 0, 0)}, api.Span{}, api.ErrRange},
		{"a speed away whose product is too great", fast, api.Radio{Kind: 1}, api.Span{}, api.ErrRange},
		{"a product that is too great before a distance that may be 0", api.State{P: api.Box{ints(-1<<16, 1<<16), ints(0, 0), ints(0, 0)}, V: box(1<<16, 0, 0), M: ints(1, 1)}, api.Radio{Kind: 1}, api.Span{}, api.ErrRange},
		{"a product of the place", s, along(2, 1, 1, 0, api.Span{}), ints(7, 7), api.OK},
		{"a product of the place, from which nothing is taken", s, api.Radio{Kind: 2, Dir: box(1, -1, 2), From: box(1, 2, 3)}, ints(23, 23), api.OK},
		{"products of the place", wide, along(2, 2, 9, -1, api.Span{}), ints(-10, -2), api.OK},
		{"a product of the place from where no distance fits", far, api.Radio{Kind: 2, From: box(-1, 0, 0), Dir: box(-1, 0, 0)}, at(-api.MostNum), api.OK},
		{"a product of the place that is too great", far, along(2, 2, 0, 0, api.Span{}), api.Span{}, api.ErrRange},
		{"a product of the velocity", s, along(3, 5, 5, 2, api.Span{}), ints(26, 26), api.OK},
		{"products of the velocity", wide, along(3, -2, 0, 1, api.Span{}), ints(-4, 7), api.OK},
		{"a product of the velocity from where no distance fits", far, api.Radio{Kind: 3, From: box(-1, 0, 0), Dir: box(3, 0, 0)}, ints(3, 3), api.OK},
		{"a sum of products that is too great", api.State{P: s.P, V: box(1, 1, 0), M: s.M}, api.Radio{Kind: 3, Dir: long}, api.Span{}, api.ErrRange},
	} {
		got, e := nav.Reading(c.s, c.m)
		is(t, c.what, got, e, c.want, c.e)
	}
}

// TestAgreesByHand checks where a reading is within a value, and where it is not.
func TestAgreesByHand(t *testing.T) {
	s := api.State{P: api.Box{ints(3, 5), ints(0, 0), ints(0, 0)}, M: ints(1, 1)}
	last := 5 * api.One
	for _, c := range []struct {
		value api.Span
		want  int
	}{
		{ints(3, 5), 1}, {ints(2, 9), 1}, {raw(-api.MostNum, api.MostNum), 1},
		{raw(3*api.One+1, last), 0}, {raw(3*api.One, last-1), 0}, {ints(4, 4), 0}, {ints(5, 9), 0}, {ints(-7, 3), 0},
		{raw(last+1, api.MostNum), -1}, {raw(-api.MostNum, 3*api.One-1), -1}, {ints(-5, -3), -1},
	} {
		for kind := range 4 {
			m := along(kind, 1, 0, 0, c.value)
			at := s
			if kind == 3 {
				at.P, at.V = at.V, at.P
			}
			if kind == 1 {
				at.P, at.V = box(2, 0, 0), at.P
			}
			if got := nav.Agrees(at, m); got != c.want {
				t.Errorf("kind %d of %v agrees: %d, want %d", kind, c.value, got, c.want)
			}
		}
	}
	if got := nav.Agrees(s, api.Radio{Kind: 1, From: s.P, Value: raw(-api.MostNum, api.MostNum)}); got != 0 {
		t.Errorf("a reading with an error agrees: %d", got)
	}
}

// TestReadingOfBad checks states and measurements that are not valid.
func TestReadingOfBad(t *testing.T) {
	reads := func(what string, s api.State, m api.Radio) {
		t.Helper()
		got, e := nav.Reading(s, m)
		is(t, what, got, e, api.Span{}, api.ErrArg)
		if got := nav.Agrees(s, m); got != 0 {
			t.Errorf("%s agrees: %d", what, got)
		}
	}
	for _, s := range badStates() {
		for kind := range 4 {
			reads("a state that is not valid", s, along(kind, 1, 1, 1, raw(-api.MostNum, api.MostNum)))
			reads("a state that is not valid", s, along(kind, 0, 0, 0, ints(1, 1)))
		}
	}
	for _, m := range badRadios() {
		reads("a measurement that is not valid", somewhere(), m)
	}
}

// TestReadingsExactly holds readings against the chapter's formulas.
func TestReadingsExactly(t *testing.T) {
	r := random()
	errors, agree := map[api.Errno]int{}, map[int]int{}
	for range 20000 {
		c := randomScene(r)
		for _, m := range c.l {
			var want api.Span
			f := attempt(func() { want = xReading(c.s, m).span() })
			got, e := nav.Reading(c.s, m)
			is(t, "a reading", got, e, want, f)
			errors[f]++
			verdict := 0
			switch {
			case f != api.OK:
			case m.Value.Lo <= want.Lo && want.Hi <= m.Value.Hi:
				verdict = 1
			case want.Hi < m.Value.Lo || m.Value.Hi < want.Lo:
				verdict = -1
			}
			if got := nav.Agrees(c.s, m); got != verdict {
				t.Errorf("%+v agrees with %v: %d, want %d", m, want, got, verdict)
			}
			agree[verdict]++
		}
	}
	for _, e := range []api.Errno{api.OK, api.ErrRange, api.ErrZero} {
		if errors[e] < 500 {
			t.Errorf("only %d readings have the error %d", errors[e], e)
		}
	}
	for v := -1; v <= 1; v++ {
		if agree[v] < 500 {
			t.Errorf("only %d readings agree: %d", agree[v], v)
		}
	}
}
