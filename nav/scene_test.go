package nav_test

// States and measurements for the tests.

import (
	"math"
	"math/rand/v2"

	"ullage/api"
)

// scene is a state, and measurements.
type scene struct {
	s api.State
	l []api.Radio
}

// somewhere returns a state of places from -8 to 8 and velocities from -2 to 2.
func somewhere() api.State {
	return api.State{T: 5, P: api.Box{ints(-8, 8), ints(-8, 8), ints(-8, 8)}, V: api.Box{ints(-2, 2), ints(-2, 2), ints(-2, 2)}, M: ints(1, 2)}
}

// along returns a measurement of Kind 2 or 3, of a direction of integers.
func along(kind, x, y, z int, value api.Span) api.Radio {
	return api.Radio{Kind: kind, Dir: box(x, y, z), Value: value}
}

// upTo returns a number from -most to most.
func upTo(r *rand.Rand, most api.Num) api.Num {
	return api.Num(r.Int64N(2*int64(most)+1)) - most
}

// around returns a span around a number, often a point.
func around(r *rand.Rand, n, width api.Num) api.Span {
	if r.IntN(3) == 0 {
		return at(n)
	}
	return raw(n-api.Num(r.Int64N(int64(width)+1)), n+api.Num(r.Int64N(int64(width)+1)))
}

func aroundBox(r *rand.Rand, most, width api.Num) api.Box {
	return api.Box{around(r, upTo(r, most), width), around(r, upTo(r, most), width), around(r, upTo(r, most), width)}
}

// anyNum returns a valid number of any size, more often one whose square is a number, too.
func anyNum(r *rand.Rand) api.Num {
	n := api.Num(r.Uint64()>>1) >> r.IntN(64)
	if r.IntN(4) > 0 {
		n >>= 20
	}
	if r.IntN(2) == 0 {
		return -n
	}
	return n
}

// anySpan returns a valid span of any size.
func anySpan(r *rand.Rand) api.Span {
	a, b := anyNum(r), anyNum(r)
	if r.IntN(3) == 0 {
		b = a
	}
	return raw(min(a, b), max(a, b))
}

func anyBox(r *rand.Rand) api.Box {
	return api.Box{anySpan(r), anySpan(r), anySpan(r)}
}

// pick returns a number of a span, often an end.
func pick(r *rand.Rand, a api.Span) api.Num {
	switch r.IntN(4) {
	case 0:
		return a.Lo
	case 1:
		return a.Hi
	}
	return a.Lo + api.Num(r.Uint64N(uint64(a.Hi)-uint64(a.Lo)+1))
}

// pickBox returns a point of a box.
func pickBox(r *rand.Rand, b api.Box) [3]api.Num {
	return [3]api.Num{pick(r, b[0]), pick(r, b[1]), pick(r, b[2])}
}

// pickState returns a point of a state.
func pickState(r *rand.Rand, s api.State) api.State {
	for i := range s.P {
		s.P[i], s.V[i] = at(pick(r, s.P[i])), at(pick(r, s.V[i]))
	}
	return s
}

// aim returns directions, some of whose components are 0, or may be.
func aim(r *rand.Rand) api.Box {
	b := aroundBox(r, 2*api.One, api.One/256)
	for i := range b {
		switch r.IntN(5) {
		case 0:
			b[i] = at(0)
		case 1:
			b[i] = raw(-api.One/512, api.Num(r.IntN(3))*api.One/512)
		}
	}
	return b
}

// float returns a number as a float.
func float(n api.Num) float64 {
	return float64(n) / (1 << 32)
}

// vector returns the middle of a box.
func vector(b api.Box) [3]float64 {
	var v [3]float64
	for i, a := range b {
		v[i] = (float(a.Lo) + float(a.Hi)) / 2
	}
	return v
}

func dot(a, b [3]float64) float64 {
	return a[0]*b[0] + a[1]*b[1] + a[2]*b[2]
}

// about returns about what a measurement reads in the middle of a state.
func about(s api.State, m api.Radio) float64 {
	p, v, from, dir := vector(s.P), vector(s.V), vector(m.From), vector(m.Dir)
	d := [3]float64{p[0] - from[0], p[1] - from[1], p[2] - from[2]}
	switch m.Kind {
	case 0:
		return math.Sqrt(dot(d, d))
	case 1:
		return dot(d, v) / max(math.Sqrt(dot(d, d)), 1e-6)
	case 2:
		return dot(dir, p)
	}
	return dot(dir, v)
}

// hear returns a measurement of a point of a state, from somewhere near, that is seldom wrong.
func hear(r *rand.Rand, s api.State, most, width api.Num) api.Radio {
	m := api.Radio{Kind: r.IntN(4), From: aroundBox(r, most, width/64), Dir: aim(r)}
	if r.IntN(4) == 0 {
		m.From = s.P
	}
	reads := about(pickState(r, s), m)
	if r.IntN(8) == 0 {
		reads += float(upTo(r, 2*width))
	}
	m.Value = around(r, api.Num(reads*(1<<32)), width/(1+api.Num(r.IntN(64))))
	return m
}

// near returns a scene of places up to most, with spans of so much width, and speeds up to fast.
func near(r *rand.Rand, most, width, fast api.Num) scene {
	c := scene{s: api.State{T: upTo(r, 100*api.One), P: aroundBox(r, most, width), V: aroundBox(r, fast, fast), M: around(r, 9*api.One, api.One)}}
	if r.IntN(4) == 0 {
		c.s.P[r.IntN(3)] = at(0)
	}
	for range r.IntN(7) {
		c.l = append(c.l, hear(r, c.s, most, width))
	}
	return c
}

// wild returns a scene of numbers of any size.
func wild(r *rand.Rand) scene {
	c := scene{s: api.State{T: anyNum(r), P: anyBox(r), V: anyBox(r), M: at(1)}}
	for range r.IntN(7) {
		c.l = append(c.l, api.Radio{Kind: r.IntN(4), From: anyBox(r), Dir: anyBox(r), Value: anySpan(r)})
	}
	return c
}

// slow returns a scene of two sums of x and y, each round of which cuts a part of what is left.
func slow(r *rand.Rand) scene {
	c := scene{s: api.State{P: api.Box{around(r, 0, 1<<10*api.One), around(r, 0, 1<<10*api.One), at(0)}, M: at(1)}}
	for i := range 2 {
		c.s.P[i] = raw(c.s.P[i].Lo-api.One, c.s.P[i].Hi+api.One)
	}
	for _, steep := range []int{1, 2 + r.IntN(2)} {
		c.l = append(c.l, along(2, steep, -1, 0, around(r, 0, 4)))
	}
	return c
}

// randomScene returns a valid scene: of small places, of places of a launch, or of any.
func randomScene(r *rand.Rand) scene {
	switch r.IntN(4) {
	case 0:
		return near(r, 6500*api.One, 20*api.One, 8*api.One)
	case 1:
		return wild(r)
	}
	return near(r, 16*api.One, 8*api.One, 4*api.One)
}

// badStates returns states that are not valid.
func badStates() []api.State {
	l := []api.State{{T: none, M: ints(1, 1)}, {}, {M: raw(-1, 1)}, {M: raw(0, 1)}}
	for _, a := range badSpans() {
		for i := range 3 {
			place, v := somewhere(), somewhere()
			place.P[i], v.V[i] = a, a
			l = append(l, place, v)
		}
		l = append(l, api.State{M: a})
	}
	return l
}

// badRadios returns measurements that are not valid.
func badRadios() []api.Radio {
	l := []api.Radio{{Kind: -1}, {Kind: 4}, {Kind: math.MaxInt}, {Kind: math.MinInt}}
	for kind := range 4 {
		for _, a := range badSpans() {
			for i := range 3 {
				from, dir := api.Radio{Kind: kind}, api.Radio{Kind: kind}
				from.From[i], dir.Dir[i] = a, a
				l = append(l, from, dir)
			}
			l = append(l, api.Radio{Kind: kind, Value: a})
		}
	}
	return l
}

// badPlanets returns planets that are not valid.
func badPlanets() []api.Planet {
	l := []api.Planet{{Mu: raw(-1, 1)}, {Radius: raw(-1, 1)}}
	for _, a := range badSpans() {
		l = append(l, api.Planet{Mu: a}, api.Planet{Radius: a}, api.Planet{Oblate: a}, api.Planet{Spin: a})
		for i := range 3 {
			var p api.Planet
			p.Pull[i] = a
			l = append(l, p)
		}
	}
	return l
}

// badRounds returns numbers of rounds that there may not be.
func badRounds() []int {
	return []int{-1, 17, math.MinInt, math.MaxInt}
}
