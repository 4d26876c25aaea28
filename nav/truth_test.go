package nav_test

// P0.1, P6.7, P6.8 (what follows).

import (
	"math"
	"math/big"
	"math/rand/v2"
	"reflect"
	"slices"
	"testing"

	"ullage/api"
	"ullage/nav"
	"ullage/span"
)

// contains reports whether a state has all places and velocities of another one.
func contains(outer, inner api.State) bool {
	for i := range 3 {
		if !span.Within(inner.P[i], outer.P[i]) || !span.Within(inner.V[i], outer.V[i]) {
			return false
		}
	}
	return outer.T == inner.T && outer.M == inner.M
}

// product returns a sum of products of numbers, in units of 2^-64.
func product(a, b [3]*big.Int) *big.Int {
	sum := new(big.Int)
	for i := range a {
		sum.Add(sum, new(big.Int).Mul(a[i], b[i]))
	}
	return sum
}

// bigs returns numbers as integers of any size.
func bigs(l [3]api.Num) [3]*big.Int {
	return [3]*big.Int{big.NewInt(int64(l[0])), big.NewInt(int64(l[1])), big.NewInt(int64(l[2]))}
}

// points returns the numbers of a box of points.
func points(b api.Box) [3]api.Num {
	return [3]api.Num{b[0].Lo, b[1].Lo, b[2].Lo}
}

// truth returns the true reading of a measurement with some From and Dir in its spans at a point, rounded down and rounded up, if there is one.
func truth(r *rand.Rand, point api.State, m api.Radio) (down, up *big.Int, there bool) {
	p, v, from, dir := bigs(points(point.P)), bigs(points(point.V)), bigs(pickBox(r, m.From)), bigs(pickBox(r, m.Dir))
	var d [3]*big.Int
	for i := range d {
		d[i] = new(big.Int).Sub(p[i], from[i])
	}
	square := product(d, d)
	switch m.Kind {
	case 0:
		return new(big.Int).Sqrt(square), rootUp(square), true
	case 1:
		if square.Sign() == 0 {
			return nil, nil, false
		}
		down, up = overRoot(product(d, v), square)
		return down, up, true
	case 2:
		sum := product(dir, p)
		return floor(sum, one()), ceiling(sum, one()), true
	}
	sum := product(dir, v)
	return floor(sum, one()), ceiling(sum, one()), true
}

// overRoot returns n / √square, rounded down and rounded up. Its size is the root of n² / square, in which what is behind the point does not matter for the root, rounded down.
func overRoot(n, square *big.Int) (down, up *big.Int) {
	whole, rest := new(big.Int).QuoRem(new(big.Int).Mul(n, n), square, new(big.Int))
	down = new(big.Int).Sqrt(whole)
	up = new(big.Int).Set(down)
	if rest.Sign() != 0 || new(big.Int).Mul(down, down).Cmp(whole) != 0 {
		up.Add(up, big.NewInt(1))
	}
	if n.Sign() < 0 {
		return up.Neg(up), down.Neg(down)
	}
	return down, up
}

// hearTrue returns a measurement with which a point agrees, often just so.
func hearTrue(r *rand.Rand, point api.State, m api.Radio) (api.Radio, bool) {
	down, up, there := truth(r, point, m)
	most := big.NewInt(int64(api.MostNum))
	if !there || down.CmpAbs(most) > 0 || up.CmpAbs(most) > 0 {
		return m, false
	}
	m.Value = raw(api.Num(down.Int64()), api.Num(up.Int64()))
	if r.IntN(3) == 0 {
		m.Value.Lo = max(-api.MostNum, m.Value.Lo-min(m.Value.Lo+api.MostNum, api.Num(r.Int64N(int64(api.One)))))
	}
	if r.IntN(3) == 0 {
		m.Value.Hi += min(api.MostNum-m.Value.Hi, api.Num(r.Int64N(int64(api.One))))
	}
	return m, true
}

// trueScene returns a scene, and a point of its state that agrees with all measurements.
func trueScene(r *rand.Rand) (scene, api.State) {
	c := randomScene(r)
	point := pickState(r, c.s)
	var l []api.Radio
	for _, m := range c.l {
		if m, agrees := hearTrue(r, point, m); agrees {
			l = append(l, m)
		}
	}
	c.l = l
	return c, point
}

// TestTruthIsKept checks that a point that agrees with measurements is in what is left of a state.
func TestTruthIsKept(t *testing.T) {
	r := random()
	cuts, rounds := 0, 0
	for range 12000 {
		c, point := trueScene(r)
		for _, m := range c.l {
			got, e := nav.Cut(c.s, m)
			if e == api.ErrNone || e == api.OK && !contains(got, point) {
				t.Errorf("%+v is not in %+v, error %d, with %+v", point, got, e, m)
			}
			if e == api.OK && got != c.s {
				cuts++
			}
		}
		got, n, e := nav.Fuse(c.s, c.l, r.IntN(17))
		if e != api.OK || !contains(got, point) {
			t.Errorf("%+v is not in %+v, error %d, with %+v", point, got, e, c.l)
		}
		rounds += n
	}
	if cuts < 5000 || rounds < 5000 {
		t.Errorf("only %d cuts and %d rounds", cuts, rounds)
	}
}

// TestTruthIsTrusted checks that a point that agrees with all but some measurements is in what is trusted.
func TestTruthIsTrusted(t *testing.T) {
	r := random()
	conflicts := 0
	for range 4000 {
		c, point := trueScene(r)
		wrong := min(len(c.l), r.IntN(3))
		for i := range wrong {
			c.l[i].Value = around(r, upTo(r, 16*api.One), api.One)
		}
		r.Shuffle(len(c.l), func(i, j int) { c.l[i], c.l[j] = c.l[j], c.l[i] })
		rounds := r.IntN(6)
		if _, _, e := nav.Fuse(c.s, c.l, rounds); e == api.ErrNone {
			conflicts++
		}
		for more := wrong; more <= min(2, len(c.l)); more++ {
			got, e := nav.Trust(c.s, c.l, more, rounds)
			if e != api.OK || !contains(got, point) {
				t.Errorf("%+v is not in %+v, error %d", point, got, e)
			}
		}
	}
	if conflicts < 500 {
		t.Errorf("only %d conflicts", conflicts)
	}
}

// TestAgreesTruly checks that what surely agrees does so at each point, and what surely does not at none.
func TestAgreesTruly(t *testing.T) {
	r := random()
	found := map[int]int{}
	for range 12000 {
		c := randomScene(r)
		for _, m := range c.l {
			verdict := nav.Agrees(c.s, m)
			down, up, there := truth(r, pickState(r, c.s), m)
			if verdict == 0 || !there {
				continue
			}
			found[verdict]++
			lo, hi := big.NewInt(int64(m.Value.Lo)), big.NewInt(int64(m.Value.Hi))
			if inside := lo.Cmp(down) <= 0 && up.Cmp(hi) <= 0; inside != (verdict == 1) {
				t.Errorf("%+v agrees with %+v: %d, but what is true is from %s to %s", m, c.s, verdict, down, up)
			}
		}
	}
	if found[1] < 500 || found[-1] < 500 {
		t.Errorf("only %v", found)
	}
}

// TestNothingIsGained checks that what is left is within the state that was cut; with more rounds, or more measurements, within what was left before; and that more wrong ones leave no less.
func TestNothingIsGained(t *testing.T) {
	r := random()
	for range 6000 {
		c := randomScene(r)
		left := c.s
		within := func(what string, s api.State, e api.Errno) {
			if e == api.OK && !contains(left, s) {
				t.Errorf("%s: %+v is not within %+v", what, s, left)
			}
		}
		for _, m := range c.l {
			s, e := nav.Cut(c.s, m)
			within("a cut", s, e)
		}
		for n := range 17 {
			s, _, e := nav.Fuse(c.s, c.l, n)
			within("more rounds", s, e)
			if e != api.OK {
				left = api.State{}
				continue
			}
			left = s
		}
		left = c.s
		for n := range c.l {
			s, _, e := nav.Fuse(c.s, c.l[:n+1], 1)
			within("more measurements", s, e)
			if e != api.OK {
				left = api.State{}
				continue
			}
			left = s
		}
		left = c.s
		rounds := r.IntN(5)
		for wrong := min(2, len(c.l)); wrong >= 0; wrong-- {
			s, e := nav.Trust(c.s, c.l, wrong, rounds)
			within("fewer wrong ones", s, e)
			if e != api.OK {
				left = api.State{}
				continue
			}
			left = s
		}
	}
}

// TestTrajectories checks that what moves under an acceleration in a box, which changes from part to part of a step, comes to what is predicted.
func TestTrajectories(t *testing.T) {
	r := random()
	found := 0
	for range 1500 {
		p := api.Planet{Pull: aroundBox(r, api.One/8, api.One/64)}
		s := api.State{P: aroundBox(r, 12*api.One, api.One/16), V: aroundBox(r, api.One, api.One/16), M: ints(1, 1)}
		if r.IntN(2) == 0 {
			p.Mu, p.Spin = around(r, 4*api.One, api.One/64), around(r, api.One/16, api.One/256)
			s.P[r.IntN(3)] = around(r, 9*api.One, api.One/16)
		}
		acc, h := aroundBox(r, api.One/8, api.One/16), randomLength(r)
		next, e := nav.Predict(p, s, acc, h)
		if e != api.OK {
			continue
		}
		found++
		place, v := somePoint(r, s.P), somePoint(r, s.V)
		mu, spin, pull := float(pick(r, p.Mu)), float(pick(r, p.Spin)), somePoint(r, p.Pull)
		const parts = 256
		for part := range parts {
			if part%64 == 0 {
				pull = plus(somePoint(r, p.Pull), 1, somePoint(r, acc))
			}
			k := float(h) / parts
			f := forceAt(plus(place, k/2, v), v, pull, mu, spin)
			f = forceAt(plus(plus(place, k/2, v), k*k/8, f), plus(v, k/2, f), pull, mu, spin)
			place = plus(plus(place, k, v), k*k/2, f)
			v = plus(v, k, f)
		}
		for i := range 3 {
			if !isNear(next.P[i], place[i]) || !isNear(next.V[i], v[i]) {
				t.Errorf("%v, %v is not in %+v", place, v, next)
			}
		}
	}
	if found < 1000 {
		t.Errorf("only %d moves have no error", found)
	}
}

// somePoint returns a point of a box.
func somePoint(r *rand.Rand, b api.Box) [3]float64 {
	l := pickBox(r, b)
	return [3]float64{float(l[0]), float(l[1]), float(l[2])}
}

func plus(a [3]float64, k float64, b [3]float64) [3]float64 {
	return [3]float64{a[0] + k*b[0], a[1] + k*b[1], a[2] + k*b[2]}
}

// forceAt returns the acceleration at a place over a round planet that turns.
func forceAt(p, v, pull [3]float64, mu, spin float64) [3]float64 {
	if mu != 0 {
		square := dot(p, p)
		pull = plus(pull, -mu/(square*math.Sqrt(square)), p)
	}
	return plus(pull, 1, [3]float64{2*spin*v[1] + spin*spin*p[0], -2*spin*v[0] + spin*spin*p[1], 0})
}

// isNear reports whether a span contains a number that has been computed in floats.
func isNear(a api.Span, x float64) bool {
	return float(a.Lo)-1e-4 <= x && x <= float(a.Hi)+1e-4
}

// TestParabola checks that the place p + v h + a h² / 2 and the velocity v + a h are in what is predicted, exactly.
func TestParabola(t *testing.T) {
	r := random()
	rational := func(n api.Num) *big.Rat { return big.NewRat(int64(n), 1<<32) }
	in := func(a api.Span, x *big.Rat) bool { return rational(a.Lo).Cmp(x) <= 0 && x.Cmp(rational(a.Hi)) <= 0 }
	times := func(a, b *big.Rat) *big.Rat { return new(big.Rat).Mul(a, b) }
	for range 3000 {
		p := api.Planet{Pull: aroundBox(r, api.One, api.One)}
		s := api.State{T: upTo(r, api.One), P: aroundBox(r, 100*api.One, api.One), V: aroundBox(r, 3*api.One, api.One), M: ints(1, 1)}
		acc, h := aroundBox(r, api.One, api.One), randomLength(r)
		next, e := nav.Predict(p, s, acc, h)
		if e != api.OK {
			t.Fatalf("a move has the error %d", e)
		}
		length := rational(h)
		for i := range 3 {
			place, v := rational(pick(r, s.P[i])), rational(pick(r, s.V[i]))
			a := rational(pick(r, acc[i]) + pick(r, p.Pull[i]))
			place.Add(place, times(length, v))
			place.Add(place, times(times(length, length), times(a, big.NewRat(1, 2))))
			v.Add(v, times(length, a))
			if !in(next.P[i], place) || !in(next.V[i], v) {
				t.Errorf("%s, %s is not in %v, %v", place, v, next.P[i], next.V[i])
			}
		}
	}
}

// TestArgumentsAreRead checks that no argument is changed, and that no result shares memory.
func TestArgumentsAreRead(t *testing.T) {
	r := random()
	for range 300 {
		c := near(r, 16*api.One, 8*api.One, 4*api.One)
		l := slices.Grow(c.l, 4)
		updates := []api.Update{{H: api.One, Heard: l}, {H: api.One, Acc: box(1, 0, 0), Heard: c.l}}
		whole, before := slices.Clone(l[:cap(l)]), slices.Clone(l)
		call := func() []any {
			s, n, e := nav.Fuse(c.s, l, 3)
			trusted, f := nav.Trust(c.s, l, min(2, len(l)), 3)
			one, _ := nav.Trust(c.s, l, min(1, len(l)), 3)
			who, g := nav.Suspects(c.s, l, 3)
			states, m, h := nav.Follow(api.Planet{}, c.s, updates, 3)
			out := []any{s, n, e, trusted, one, f, slices.Clone(who), g, slices.Clone(states), m, h}
			clear(who)
			clear(states)
			clear(states[:cap(states)])
			return out
		}
		if first, second := call(), call(); !reflect.DeepEqual(first, second) {
			t.Errorf("%v, and then %v", first, second)
		}
		if !slices.Equal(l, before) || !slices.Equal(l[:cap(l)], whole) {
			t.Errorf("the measurements were changed")
		}
	}
}

// TestAnyArgument calls all functions with any arguments at all: they return, with zero values if there is an error.
func TestAnyArgument(t *testing.T) {
	r := random()
	num := func() api.Num { return api.Num(r.Uint64()) >> r.IntN(64) }
	any1 := func() api.Span {
		if r.IntN(40) > 0 {
			return anySpan(r)
		}
		return raw(num(), num())
	}
	any3 := func() api.Box { return api.Box{any1(), any1(), any1()} }
	for range 20000 {
		s := api.State{T: num(), P: any3(), V: any3(), M: raw(1, max(1, num()))}
		var l []api.Radio
		for range r.IntN(20) >> r.IntN(4) {
			l = append(l, api.Radio{Kind: r.IntN(81) / 20, From: any3(), Dir: any3(), Value: any1()})
		}
		p := api.Planet{Mu: any1(), Radius: any1(), Oblate: any1(), Spin: any1(), Pull: any3()}
		rounds, wrong := r.IntN(20)-1, r.IntN(5)-1
		for _, m := range l {
			nav.CheckRadio(m)
			nav.Agrees(s, m)
			a, e := nav.Reading(s, m)
			isZero(t, a, e)
			cut, e := nav.Cut(s, m)
			isZero(t, cut, e)
		}
		got, e := fuse(s, l, rounds)
		isZero(t, got, e)
		trusted, e := nav.Trust(s, l, wrong, rounds)
		isZero(t, trusted, e)
		who, e := nav.Suspects(s, l, rounds)
		if e != api.OK && len(who) > 0 {
			t.Errorf("%v with the error %d", who, e)
		}
		next, e := nav.Predict(p, s, any3(), num())
		isZero(t, next, e)
		_, n, e := nav.Follow(p, s, []api.Update{{H: num(), Acc: any3(), Heard: l}}, rounds)
		if e != api.OK && n != 0 {
			t.Errorf("%d with the error %d", n, e)
		}
	}
}

// isZero fails if a result is not its zero value with an error.
func isZero[T comparable](t *testing.T, got T, e api.Errno) {
	t.Helper()
	var zero T
	if e != api.OK && got != zero {
		t.Errorf("%v with the error %d", got, e)
	}
}

// TestExamples checks the chapter's examples.
func TestExamples(t *testing.T) {
	s := api.State{P: box(3, 4, 12), V: box(0, 0, 13), M: ints(1, 1)}
	a, e := nav.Reading(s, api.Radio{})
	is(t, "Reading of Kind 0", a, e, ints(13, 13), api.OK)
	a, e = nav.Reading(s, api.Radio{Kind: 1})
	is(t, "Reading of Kind 1", a, e, ints(12, 12), api.OK)
	for _, c := range []struct {
		what   string
		before api.Box
		m      api.Radio
		after  api.Box
		e      api.Errno
	}{
		{"the distance of both sides", api.Box{ints(-10, 10)}, api.Radio{Value: ints(3, 5)}, api.Box{ints(-5, 5)}, api.OK},
		{"the distance of one side", api.Box{ints(1, 10)}, api.Radio{Value: ints(3, 5)}, api.Box{ints(3, 5)}, api.OK},
		{"a sum", api.Box{ints(0, 4), ints(0, 4)}, along(2, 1, 1, 0, ints(7, 9)), api.Box{ints(3, 4), ints(3, 4)}, api.OK},
		{"nothing", api.Box{ints(0, 1)}, api.Radio{Value: ints(3, 5)}, api.Box{}, api.ErrNone},
	} {
		want := api.State{P: c.after, M: ints(1, 1)}
		if c.e != api.OK {
			want = api.State{}
		}
		got, e := nav.Cut(api.State{P: c.before, M: ints(1, 1)}, c.m)
		is(t, c.what, got, e, want, c.e)
	}
}
