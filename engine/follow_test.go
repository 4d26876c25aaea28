package engine_test

// P0.1 (any arguments), P7.8 (never), P7.9 (nothing is lost).

import (
	"math/rand/v2"
	"testing"

	"ullage/api"
	"ullage/engine"
)

// P7.8: whatever is ordered, sticks or leaks, no set of Never holds.
func TestNeverHolds(t *testing.T) {
	r := random()
	refused := 0
	for range 3000 {
		p := aPlant(r, 6)
		s, m := made(t, p), newModel(p)
		for range 60 {
			e, _ := do(r, p, s, m)
			refused += number(e == api.ErrState)
			if r.IntN(10) == 0 {
				s.Run(aSequence(r, p), someDisorders(r, p))
			}
			for _, set := range p.Never {
				if s.Holds(set) {
					t.Fatalf("plant %v: %v holds", p, set)
				}
			}
		}
	}
	if refused < 5000 {
		t.Errorf("%d orders were refused", refused)
	}
}

// P7.9: what a tank has is what was put, plus what lines brought, less what they took, and what it lost.
func TestNothingIsLost(t *testing.T) {
	r := random()
	moved := 0
	for range 3000 {
		p := aPlant(r, 3)
		s := made(t, p)
		put := map[int][2]int{}
		fill(r, p, func(tank, content, gas int) {
			s.Put(tank, content, gas)
			put[tank] = [2]int{content, gas}
			s.Leak(tank, pick(r, 0, 0, 1, r.IntN(1000)))
		})
		for range 20 {
			s.Order(api.Order{Valve: r.IntN(len(p.Valves)), Open: r.IntN(4) > 0})
			s.Tick()
			for i, tank := range p.Tanks {
				content, gas := put[i][0]-s.Lost()[i], put[i][1]-s.Vented()[i]
				for k, l := range p.Lines {
					n := s.Carried()[k] * (number(l.To == i) - number(l.From == i))
					moved += number(n != 0)
					if l.Gas {
						gas += n
					} else {
						content += n
					}
				}
				n, pressure := what(t, s, 0, i), what(t, s, 1, i)
				if n != content || n < 0 || n > tank.Room || gas < 0 || gas > api.MaxMass {
					t.Fatalf("plant %v: tank %d has %d, %d by its lines; gas %d", p, i, n, content, gas)
				}
				if pressure > tank.Limit || pressure != gas*100/max(tank.Least, tank.Room-n) {
					t.Fatalf("plant %v: tank %d with the gas %d has the pressure %d", p, i, gas, pressure)
				}
			}
		}
	}
	if moved < 5000 {
		t.Errorf("lines have carried at %d ticks", moved)
	}
}

// anyInt returns any integer.
func anyInt(r *rand.Rand) int {
	return pick(r, 0, 1, 2, r.IntN(20)-2, int(r.Uint64()), api.MaxMass, pick(r, extremes()...))
}

// someOf returns up to so many of anything.
func someOf[T any](r *rand.Rand, most int, one func() T) []T {
	var l []T
	for range r.IntN(most + 1) {
		l = append(l, one())
	}
	return l
}

// anyPlant returns any plant, mostly one that is not valid.
func anyPlant(r *rand.Rand) api.Plant {
	name := func() string { return pick(r, "", "a", "b", "c", "d", "e", "f") }
	lit := func() api.Lit { return api.Lit{Valve: anyInt(r), Open: r.IntN(2) == 0} }
	return api.Plant{
		Tanks:  someOf(r, 3, func() api.Tank { return api.Tank{Name: name(), Room: anyInt(r), Least: anyInt(r), Limit: anyInt(r)} }),
		Valves: someOf(r, 3, func() api.Valve { return api.Valve{Name: name(), Travel: anyInt(r), Open: r.IntN(2) == 0} }),
		Lines: someOf(r, 2, func() api.Line {
			return api.Line{From: anyInt(r), To: anyInt(r), Flow: anyInt(r), Gas: r.IntN(2) == 0, Valves: someOf(r, 3, func() int { return anyInt(r) })}
		}),
		Never: someOf(r, 2, func() []api.Lit { return someOf(r, 3, lit) }),
	}
}

// P0.1: nothing panics, whatever it is given, and a plant that is not valid has no system.
func TestAnything(t *testing.T) {
	r := random()
	made := 0
	for range 20000 {
		p := anyPlant(r)
		if r.IntN(3) == 0 {
			p = aPlant(r, 4)
		}
		order := func() api.Order { return api.Order{Valve: anyInt(r), Open: r.IntN(2) == 0} }
		need := func() api.Need {
			return api.Need{Kind: anyInt(r), Of: anyInt(r), Low: anyInt(r), High: anyInt(r)}
		}
		lit := func() api.Lit { return api.Lit{Valve: anyInt(r), Open: r.IntN(2) == 0} }
		q := api.Sequence{
			Steps: someOf(r, 2, func() api.Step {
				return api.Step{At: anyInt(r), Orders: someOf(r, 2, order), Needs: someOf(r, 2, need)}
			}),
			Redlines: someOf(r, 2, func() api.Redline { return api.Redline{Need: need(), Ticks: anyInt(r)} }),
			Abort:    someOf(r, 2, order),
		}
		s, e := engine.New(p)
		if is := engine.CheckPlant(p); is != (e == api.OK) || is != (s != nil) || !is && e != api.ErrArg {
			t.Fatalf("plant %v is valid: %t, error %d", p, is, e)
		}
		made += number(s != nil)
		for range 4 {
			s.Put(anyInt(r), anyInt(r), anyInt(r))
			s.Order(order())
			s.Stick(anyInt(r), r.IntN(2) == 0)
			s.Leak(anyInt(r), anyInt(r))
			s.Tick()
			s.Number(need())
			s.Wanted(anyInt(r))
			s.Holds(someOf(r, 3, lit))
			_, f := s.Run(q, someOf(r, 2, func() api.Disorder {
				return api.Disorder{At: anyInt(r), Kind: anyInt(r), Of: anyInt(r), Rate: anyInt(r)}
			}))
			if f == api.OK && !engine.CheckSequence(p, q) {
				t.Fatalf("plant %v has run %v", p, q)
			}
		}
		if l, f := engine.Path(p, someOf(r, 3, lit)); f != api.OK && l != nil || s == nil && f != api.ErrArg {
			t.Fatalf("plant %v: path %v, error %d", p, l, f)
		}
	}
	if made < 6000 {
		t.Errorf("%d plants are valid", made)
	}
}
