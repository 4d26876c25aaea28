package steer_test

// P5.9, P0.1, and the chapter's examples.

import (
	"math/rand/v2"
	"slices"
	"testing"

	"ullage/api"
	"ullage/steer"
)

// roomy returns a list with room behind its end, in which nothing may be written, and all that is in it.
func roomy[T any](l []T, behind T) (list, all []T) {
	all = append(slices.Clone(l), behind, behind, behind)
	return all[:len(l)], all
}

// TestArgumentsAreOnlyRead checks that lists are as they were behind calls, also behind their ends.
func TestArgumentsAreOnlyRead(t *testing.T) {
	filter := []api.Section{{B0: 5, A1: 3}, {B1: api.One, A2: 9}}
	loose := []api.Loose{{B0: raw(5, 6), A1: raw(3, 4)}, {B1: at(api.One), A2: raw(-9, 9)}}
	samples := []api.Num{7, -5, api.One, 3}
	spans := []api.Span{ints(1, 2), ints(3, 4), ints(5, 6), ints(7, 8)}
	open := []api.Span{ints(1, 1), ints(1, 2)}
	thrusters := jets([3]int{1, 2, 3}, [3]int{-4, 5, 6}, [3]int{7, -8, -9})
	f, allF := roomy(filter, api.Section{B2: 1})
	l, allL := roomy(loose, api.Loose{B2: at(1)})
	x, allX := roomy(samples, 1)
	p, allP := roomy(spans, at(1))
	q, allQ := roomy(open, at(1))
	j, allJ := roomy(thrusters, api.Jet{Torque: [3]int{1, 1, 1}})
	for range 2 {
		steer.CheckFilter(f)
		steer.Run(f, x)
		steer.Run(nil, x)
		steer.Reach(l, p)
		steer.Reach(nil, p)
		steer.Routh(p)
		steer.Corners(p)
		steer.Robust(p)
		steer.Margin(p, q, 64)
		steer.Mix(j, 2, [3]int{5, 5, 5})
		steer.Spans(j, 2)
		steer.Safe(j)
		steer.Swivel(p, 1, p[0], api.One, api.One)
	}
	_, wantF := roomy(filter, api.Section{B2: 1})
	_, wantL := roomy(loose, api.Loose{B2: at(1)})
	_, wantX := roomy(samples, 1)
	_, wantP := roomy(spans, at(1))
	_, wantQ := roomy(open, at(1))
	_, wantJ := roomy(thrusters, api.Jet{Torque: [3]int{1, 1, 1}})
	are(t, "a filter", allF, 0, wantF, 0)
	are(t, "loose sections", allL, 0, wantL, 0)
	are(t, "samples", allX, 0, wantX, 0)
	are(t, "spans", allP, 0, wantP, 0)
	are(t, "spans", allQ, 0, wantQ, 0)
	are(t, "jets", allJ, 0, wantJ, 0)
}

// TestResultsAreNew checks that a result shares no memory with an argument, with another result, or within itself.
func TestResultsAreNew(t *testing.T) {
	for _, l := range [][]api.Section{nil, {{B0: api.One}}} {
		x := []api.Num{1, 2, 3}
		y, _ := steer.Run(l, x)
		z, _ := steer.Run(l, x)
		clear(z[:cap(z)])
		are(t, "samples that were an argument", x, 0, []api.Num{1, 2, 3}, 0)
		clear(x)
		are(t, "what was made", y, 0, []api.Num{1, 2, 3}, 0)
	}
	for _, l := range [][]api.Loose{nil, {{B0: ints(1, 1)}}} {
		x := points(1, 2, 3)
		y, _ := steer.Reach(l, x)
		z, _ := steer.Reach(l, x)
		clear(z[:cap(z)])
		are(t, "spans that were an argument", x, 0, points(1, 2, 3), 0)
		clear(x)
		are(t, "what was made", y, 0, points(1, 2, 3), 0)
	}
	p := points(1, 2, 3)
	l, _ := steer.Corners(p)
	other, _ := steer.Corners(p)
	for i := range l {
		clear(other[i][:cap(other[i])])
		clear(l[i][:cap(l[i])])
		for k := i + 1; k < 4; k++ {
			are(t, "another corner", l[k], 0, points(1, 2, 3), 0)
		}
	}
	are(t, "a polynomial that was an argument", p, 0, points(1, 2, 3), 0)
}

// someSpans returns spans of any numbers, mostly valid, up to so many.
func someSpans(r *rand.Rand, most int) []api.Span {
	var l []api.Span
	for range r.IntN(most + 1) {
		l = append(l, anySpan(r))
	}
	return l
}

// anyInt returns an integer of any size.
func anyInt(r *rand.Rand) int {
	if r.IntN(2) == 0 {
		return r.IntN(80) - 8
	}
	return int(r.Uint64()) >> r.IntN(64)
}

// zero fails unless a result is a zero value if there is an error.
func zero[T comparable](t *testing.T, what string, got T, e api.Errno) {
	t.Helper()
	var none T
	if e != api.OK && got != none {
		t.Errorf("%s: %v, with the error %d", what, got, e)
	}
}

// TestAnyFilters calls the functions of filters and of loops with arguments of any kind: none may panic, and with an error all other results are zero.
func TestAnyFilters(t *testing.T) {
	r := random()
	for range 20000 {
		var l []api.Section
		var c []api.Loose
		for range r.IntN(11) {
			var s api.Section
			var a api.Loose
			for k := range 5 {
				*factors(&s)[k] = anyNum(r) >> r.IntN(40)
				a := ranges(&a)[k]
				*a = anySpan(r)
				a.Lo, a.Hi = a.Lo>>r.IntN(40), a.Hi>>r.IntN(40)
			}
			l, c = append(l, s), append(c, a)
		}
		var x []api.Num
		for range r.IntN(12) {
			x = append(x, anyNum(r))
		}
		y, e := steer.Run(l, x)
		zero(t, "Run", len(y), e)
		if f := steer.CheckFilter(l); f != api.OK && e != f {
			t.Errorf("the filter has the error %d, Run %d", f, e)
		}
		z, e := steer.Reach(c, someSpans(r, 12))
		zero(t, "Reach", len(z), e)
		steer.Steady(anySpan(r), anySpan(r))
		p, q := someSpans(r, 11), someSpans(r, 11)
		v, e := steer.Routh(p)
		zero(t, "Routh", v, e)
		v, e = steer.Robust(p)
		zero(t, "Robust", v, e)
		corners, e := steer.Corners(p)
		for _, c := range corners {
			zero(t, "Corners", len(c), e)
		}
		v, e = steer.Margin(p, q, anyInt(r))
		zero(t, "Margin", v, e)
	}
}

// TestAnyGuidance calls the functions of guidance and of mixers with arguments of any kind.
func TestAnyGuidance(t *testing.T) {
	r := random()
	for range 20000 {
		a, b, c, d, time := anySpan(r), anySpan(r), anySpan(r), anySpan(r), anyNum(r)
		got, e := law(a, b, c, d, time)
		zero(t, "Law", got, e)
		got, e = due(a, b, c, d, time)
		zero(t, "Due", got, e)
		speed, e := thrown{a, b, c, time}.lift(d)
		zero(t, "Lift", speed, e)
		at, e := thrown{a, b, c, time}.aim(anyNum(r), anyInt(r))
		zero(t, "Aim", at, e)
		got, e = gimbals{someSpans(r, 14), anyInt(r), a, anyNum(r), anyNum(r)}.swivel()
		zero(t, "Swivel", got, e)
		var l []api.Jet
		for range r.IntN(5) {
			l = append(l, api.Jet{Torque: [3]int{anyInt(r), anyInt(r), anyInt(r)}})
		}
		on, e := mix(l, anyInt(r), [3]int{anyInt(r), anyInt(r), anyInt(r)})
		zero(t, "Mix", on, e)
		is, e := steer.Spans(l, anyInt(r))
		zero(t, "Spans", is, e)
		is, e = steer.Safe(l)
		zero(t, "Safe", is, e)
	}
}

// TestExamples checks the examples of the chapter.
func TestExamples(t *testing.T) {
	one, half := api.One, api.One/2
	y, e := steer.Run([]api.Section{{B0: half, A1: -half}}, []api.Num{one, one, one})
	are(t, "Run", y, e, []api.Num{half, one * 3 / 4, one * 7 / 8}, api.OK)
	y, e = steer.Run([]api.Section{{B0: half}}, []api.Num{1})
	are(t, "Run", y, e, []api.Num{0}, api.OK)
	y, e = steer.Run([]api.Section{{B0: half}}, []api.Num{-1})
	are(t, "Run", y, e, []api.Num{-1}, api.OK)
	for _, c := range []struct {
		a1, a2 api.Num
		want   int
	}{{-half, 0, 1}, {-2 * one, half, -1}, {-one, 0, 0}} {
		is(t, "Steady", steer.Steady(at(c.a1), at(c.a2)), 0, c.want, 0)
	}
	for i, p := range [][]api.Span{points(1, 3, 2), points(1, -3, 2), points(1, 0, 1)} {
		v, e := steer.Routh(p)
		is(t, "Routh", v, e, []int{1, -1, 0}[i], api.OK)
	}
	for i, a := range []api.Span{ints(1, 2), ints(-2, -1), ints(-1, 1)} {
		v, e := steer.Robust([]api.Span{ints(1, 1), a, ints(1, 1)})
		is(t, "Robust", v, e, []int{1, -1, -1}[i], api.OK)
	}
	zero := ints(0, 0)
	c, e := law(zero, zero, ints(6, 6), zero, one)
	is(t, "Law", c, e, two{ints(36, 36), ints(-72, -72)}, api.OK)
	d, e := due(zero, zero, c[0], c[1], one)
	is(t, "Due", d, e, two{ints(6, 6), zero}, api.OK)
	a, e := thrown{zero, ints(1, 1), zero, one}.aim(0, 5)
	is(t, "Aim", a, e, aimed{ints(-1, 1), 1}, api.OK)
	l := jets([3]int{3, 0, 0}, [3]int{2, 0, 0}, [3]int{1, 0, 0})
	m, e := mix(l, 0, [3]int{4, 0, 0})
	is(t, "Mix", m, e, mixed{5, [3]int{}}, api.OK)
	m, e = mix(l, 1, [3]int{4, 0, 0})
	is(t, "Mix", m, e, mixed{6, [3]int{1, 0, 0}}, api.OK)
	six := jets([3]int{1, 0, 0}, [3]int{-1, 0, 0}, [3]int{0, 1, 0}, [3]int{0, -1, 0}, [3]int{0, 0, 1}, [3]int{0, 0, -1})
	b, e := steer.Spans(six, 0)
	is(t, "Spans", b, e, true, api.OK)
	b, e = steer.Safe(six)
	is(t, "Safe", b, e, false, api.OK)
	s, e := gimbals{points(2, 2), 0, ints(1, 1), one / 4, one}.swivel()
	is(t, "Swivel", s, e, two{at(one / 4), zero}, api.OK)
	s, e = gimbals{points(2, 2), 1, ints(1, 1), one / 4, one}.swivel()
	is(t, "Swivel", s, e, two{at(one / 4), at(half)}, api.OK)
}
