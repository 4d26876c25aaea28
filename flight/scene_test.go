package flight_test

// Planets, arcs and states for the tests.

import (
	"math/rand/v2"

	"ullage/api"
)

// scene is a planet, an arc, a state, and the length of a step.
type scene struct {
	p api.Planet
	a api.Arc
	s api.State
	h api.Num
}

// falling returns a scene without a planet and with a pull alone.
func falling() scene {
	return scene{
		p: api.Planet{Pull: api.Box{at(0), at(0), at(-api.One / 128)}},
		a: api.Arc{Time: 32 * api.One, Step: 16 * api.One},
		s: api.State{V: box(1, 0, 1), M: ints(1, 1)},
		h: 16 * api.One,
	}
}

// part returns a number as a part of 2^bits.
func part(n, bits int) api.Num {
	return api.Num(n) << 32 >> bits
}

// near returns the span of what is at most so much away from a number.
func near(n, by api.Num) api.Span {
	return raw(n-by, n+by)
}

// launching returns a scene with all forces: an oblate planet that turns, air, a pull, and engines that burn.
func launching() scene {
	return scene{
		p: api.Planet{
			Mu: near(398600*api.One, api.One/2), Radius: ints(6371, 6378), Oblate: near(part(7, 12), 1000), Spin: near(313187, 10),
			Pull: api.Box{near(0, 1000), near(20, 1000), near(-20, 1000)},
		},
		a: api.Arc{
			Time: 9 * api.One, Step: 2 * api.One, Thrust: ints(7, 8), Flow: near(2*api.One, api.One/8), Drop: near(5*api.One, api.One),
			Dir:  api.Box{raw(part(7, 3), api.One), near(0, part(1, 6)), near(part(1, 2), part(1, 6))},
			Drag: []api.Point{{At: 0, Value: raw(20000, 30000)}, {At: 10 * api.One, Value: raw(5000, 9000)}, {At: 80 * api.One, Value: raw(0, 10)}},
		},
		s: api.State{
			T: 100 * api.One, M: near(300*api.One, api.One),
			P: api.Box{near(6380*api.One, part(1, 4)), near(10*api.One, part(1, 4)), near(20*api.One, part(1, 4))},
			V: api.Box{near(part(3, 2), part(1, 8)), near(part(1, 1), part(1, 8)), near(part(1, 3), part(1, 8))},
		},
		h: 2 * api.One,
	}
}

// upTo returns a number from -most to most.
func upTo(r *rand.Rand, most api.Num) api.Num {
	return api.Num(r.Int64N(2*int64(most)+1)) - most
}

// around returns a span around a number, often a point.
func around(r *rand.Rand, n, width api.Num) api.Span {
	if r.IntN(3) == 0 {
		return at(n)
	}
	return raw(n-api.Num(r.Int64N(int64(width)+1)), n+api.Num(r.Int64N(int64(width)+1)))
}

// sized returns a span of numbers that are not negative, sometimes the point 0.
func sized(r *rand.Rand, most api.Num) api.Span {
	if r.IntN(4) == 0 {
		return at(0)
	}
	a := around(r, api.Num(r.Int64N(int64(most)+1)), most/64)
	return raw(max(0, a.Lo), a.Hi)
}

func aroundBox(r *rand.Rand, most, width api.Num) api.Box {
	return api.Box{around(r, upTo(r, most), width), around(r, upTo(r, most), width), around(r, upTo(r, most), width)}
}

// direction returns spans within -1 and 1.
func direction(r *rand.Rand) api.Box {
	b := aroundBox(r, api.One, api.One/16)
	for i := range b {
		b[i] = raw(max(-api.One, b[i].Lo), min(api.One, b[i].Hi))
	}
	return b
}

// air returns a table of values that are not negative, or none.
func air(r *rand.Rand, step, most api.Num) []api.Point {
	var l []api.Point
	place := upTo(r, step)
	for range r.IntN(5) {
		l = append(l, api.Point{At: place, Value: sized(r, most)})
		place += 1 + api.Num(r.Int64N(int64(step)))
	}
	return l
}

// randomToy returns a scene of a small planet, which may have any of the forces.
func randomToy(r *rand.Rand) scene {
	c := scene{
		p: api.Planet{Mu: sized(r, 50*api.One), Radius: sized(r, 4*api.One), Spin: around(r, upTo(r, api.One/2), api.One/64), Oblate: around(r, upTo(r, api.One/2), api.One/64), Pull: aroundBox(r, api.One, api.One/64)},
		a: api.Arc{Time: 1 + api.Num(r.Int64N(int64(4*api.One))), Thrust: sized(r, 4*api.One), Flow: sized(r, api.One/4), Dir: direction(r), Drag: air(r, 4*api.One, api.One/4), Drop: sized(r, api.One/4)},
		s: api.State{T: upTo(r, 100*api.One), P: aroundBox(r, 12*api.One, api.One/8), V: aroundBox(r, 3*api.One, api.One/16), M: around(r, 4*api.One, api.One)},
	}
	for _, s := range []*api.Span{&c.p.Spin, &c.p.Oblate} {
		if r.IntN(3) == 0 {
			*s = at(0)
		}
	}
	c.a.Step = c.a.Time/(1+api.Num(r.IntN(5))) + 1
	c.h = (1 + api.Num(r.Int64N(int64(api.One)>>r.IntN(8)))) * api.Num(1-2*r.IntN(2))
	return c
}

// randomLaunch returns a scene like launching, with other numbers.
func randomLaunch(r *rand.Rand) scene {
	c := launching()
	c.p.Pull = aroundBox(r, 1000, 1000)
	c.a.Thrust, c.a.Flow, c.a.Dir = sized(r, 12*api.One), sized(r, 3*api.One), direction(r)
	for i := range c.s.P {
		c.s.P[i] = near(c.s.P[i].Lo+upTo(r, 30*api.One), part(r.IntN(40), 5))
		c.s.V[i] = near(upTo(r, 8*api.One), part(r.IntN(40), 8))
	}
	c.h = upTo(r, 8*api.One) | 1
	return c
}

// anyNum returns a valid number of any size, more often one whose square is a number, too.
func anyNum(r *rand.Rand) api.Num {
	n := api.Num(r.Uint64()>>1) >> r.IntN(64)
	if r.IntN(4) > 0 {
		n >>= 20
	}
	if r.IntN(2) == 0 {
		return -n
	}
	return n
}

// anySpan returns a valid span of any size.
func anySpan(r *rand.Rand) api.Span {
	a, b := anyNum(r), anyNum(r)
	if r.IntN(3) > 0 {
		b = a
	}
	return raw(min(a, b), max(a, b))
}

func anyBox(r *rand.Rand) api.Box {
	return api.Box{anySpan(r), anySpan(r), anySpan(r)}
}

// notNegative returns a valid span of numbers of any size that are at least least.
func notNegative(r *rand.Rand, least api.Num) api.Span {
	a := anySpan(r)
	return raw(max(least, a.Lo), max(least, a.Hi))
}

// randomWild returns a valid scene of numbers of any size.
func randomWild(r *rand.Rand) scene {
	c := scene{
		p: api.Planet{Mu: notNegative(r, 0), Radius: notNegative(r, 0), Oblate: anySpan(r), Spin: anySpan(r), Pull: anyBox(r)},
		a: api.Arc{Time: notNegative(r, 1).Hi, Thrust: notNegative(r, 0), Flow: notNegative(r, 0), Dir: direction(r), Drag: air(r, 1<<r.IntN(58), 1<<r.IntN(60)), Drop: notNegative(r, 0)},
		s: api.State{T: anyNum(r), P: anyBox(r), V: anyBox(r), M: notNegative(r, 1)},
		h: anyNum(r),
	}
	// Where all forces have numbers of any size hardly anything fits.
	for _, s := range []*api.Span{&c.p.Mu, &c.p.Oblate, &c.p.Spin, &c.a.Thrust, &c.a.Flow, &c.a.Drop} {
		if r.IntN(2) == 0 {
			*s = at(0)
		}
	}
	c.a.Step = c.a.Time/(1+api.Num(r.IntN(3))) + api.Num(r.IntN(2))
	c.a.Step = max(c.a.Step, 1)
	if c.h == 0 {
		c.h = 1
	}
	return c
}

// randomScene returns a valid scene.
func randomScene(r *rand.Rand) scene {
	switch r.IntN(3) {
	case 0:
		return randomToy(r)
	case 1:
		return randomLaunch(r)
	}
	return randomWild(r)
}
