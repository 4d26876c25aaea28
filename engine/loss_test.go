package engine_test

// P7.7 (Loss) and P7.12 (leaks).

import (
	"testing"

	"ullage/api"
	"ullage/engine"
)

func TestLossByHand(t *testing.T) {
	const most = api.MaxMass
	for _, c := range []struct {
		of        [6]int
		low, high int
	}{
		{[6]int{100, 60, 0, 30, 1, 2}, 6, 14},
		{[6]int{}, 0, 0},
		{[6]int{1000, 100, 10, 1, 0, 0}, 909, 909},
		{[6]int{0, 0, 0, 0, 5, 0}, -10, 10},
		{[6]int{0, 0, 0, 0, 0, 5}, -5, 5},
		{[6]int{3, 5, 7, 9, 0, 0}, -4, -4},
		{[6]int{most, 0, most, 0, most, most}, -most, 5 * most},
		{[6]int{0, most, 0, most, most, most}, -5 * most, most},
	} {
		low, high, e := engine.Loss(c.of[0], c.of[1], c.of[2], c.of[3], c.of[4], c.of[5])
		is(t, "Loss", [2]int{low, high}, e, [2]int{c.low, c.high}, api.OK)
		for i := range c.of {
			for _, n := range extremes() {
				bad := c.of
				bad[i] = n
				low, high, e := engine.Loss(bad[0], bad[1], bad[2], bad[3], bad[4], bad[5])
				is(t, "Loss of what is out of range", [2]int{low, high}, e, [2]int{}, api.ErrRange)
			}
		}
	}
}

// A system is read with errors: the true loss is from low to high, and a leak that is surely there is.
func TestLossIsTrue(t *testing.T) {
	r := random()
	sure := 0
	for range 5000 {
		p := aPlant(r, 4)
		s := made(t, p)
		fill(r, p, func(tank, content, gas int) { s.Put(tank, content, gas) })
		if r.IntN(2) == 0 {
			s.Leak(0, amount(r, 0))
		}
		off, meter := r.IntN(10), r.IntN(10)
		read := func(n, off int) int { return max(0, n+r.IntN(2*off+1)-off) }
		before := read(what(t, s, 0, 0), off)
		for range 1 + r.IntN(8) {
			s.Order(open(r.IntN(len(p.Valves))))
			s.Tick()
		}
		in, out := 0, 0
		for i, l := range p.Lines {
			if n := s.Carried()[i]; !l.Gas && l.To == 0 {
				in += n
			} else if !l.Gas && l.From == 0 {
				out += n
			}
		}
		in, out = read(in, meter/2), read(out, meter-meter/2)
		if in > api.MaxMass || out > api.MaxMass || before > api.MaxMass {
			continue
		}
		low, high, e := engine.Loss(before, min(api.MaxMass, read(what(t, s, 0, 0), off)), in, out, off, meter)
		lost := s.Lost()[0]
		if e != api.OK || lost < low || lost > high || low > 0 && lost == 0 {
			t.Fatalf("lost %d, from %d to %d, error %d", lost, low, high, e)
		}
		sure += number(low > 0)
	}
	if sure < 500 {
		t.Errorf("%d leaks that are surely there", sure)
	}
}
