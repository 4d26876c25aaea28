package engine_test

// Plants, sequences, and what goes wrong, as they come.

import (
	"math/rand/v2"

	"ullage/api"
)

// pick returns one of a list.
func pick[T any](r *rand.Rand, l ...T) T {
	return l[r.IntN(len(l))]
}

// amount returns a mass: mostly small, sometimes as large as can be.
func amount(r *rand.Rand, least int) int {
	return pick(r, least, least+r.IntN(4), 1+r.IntN(100), 1+r.IntN(100), 1+r.IntN(1000), 1+r.IntN(api.MaxMass), api.MaxMass)
}

// aPlant returns a plant that is valid, with up to so many valves.
func aPlant(r *rand.Rand, most int) api.Plant {
	var p api.Plant
	for i := range 1 + r.IntN(4) {
		p.Tanks = append(p.Tanks, api.Tank{Name: string(rune('a' + i)), Room: amount(r, 1), Least: amount(r, 1), Limit: amount(r, 0)})
	}
	for i := range 1 + r.IntN(most) {
		p.Valves = append(p.Valves, api.Valve{Name: string(rune('a' + i)), Travel: 1 + r.IntN(pick(r, 1, 3, api.MaxTravel)), Open: r.IntN(3) == 0})
	}
	for range r.IntN(7) {
		l := api.Line{From: r.IntN(len(p.Tanks)+1) - 1, To: r.IntN(len(p.Tanks)+1) - 1, Flow: amount(r, 1), Gas: r.IntN(2) == 0}
		for range 1 + r.IntN(pick(r, 1, 1, 4)) {
			l.Valves = append(l.Valves, r.IntN(len(p.Valves)))
		}
		if l.From != l.To {
			p.Lines = append(p.Lines, l)
		}
	}
	for range r.IntN(2 * len(p.Valves)) {
		set := someLits(r, p, 1+r.IntN(4))
		if !newModel(p).mayHold(set, newModel(p).wanted) {
			p.Never = append(p.Never, set)
		}
	}
	return p
}

// someLits returns so many literals of a plant.
func someLits(r *rand.Rand, p api.Plant, many int) []api.Lit {
	var l []api.Lit
	for range many {
		l = append(l, api.Lit{Valve: r.IntN(len(p.Valves)), Open: r.IntN(2) == 0})
	}
	return l
}

// someOrders returns up to so many orders of a plant.
func someOrders(r *rand.Rand, p api.Plant, most int) []api.Order {
	var l []api.Order
	for range r.IntN(most + 1) {
		l = append(l, api.Order{Valve: r.IntN(len(p.Valves)), Open: r.IntN(3) > 0})
	}
	return l
}

// aNeed returns a need of a plant, which is kept more often than not.
func aNeed(r *rand.Rand, p api.Plant) api.Need {
	many := []int{len(p.Tanks), len(p.Tanks), len(p.Lines), len(p.Valves)}
	for {
		n := api.Need{Kind: r.IntN(4)}
		if many[n.Kind] == 0 {
			continue
		}
		n.Of = r.IntN(many[n.Kind])
		n.Low, n.High = pick(r, 0, 0, 0, 1, r.IntN(10), -5), pick(r, api.MaxMass*100, api.MaxMass*100, r.IntN(100), r.IntN(3))
		return n
	}
}

// aSequence returns a sequence that is valid for a plant.
func aSequence(r *rand.Rand, p api.Plant) api.Sequence {
	var q api.Sequence
	at := r.IntN(2)
	for range r.IntN(8) {
		s := api.Step{At: at, Orders: someOrders(r, p, 3)}
		for range r.IntN(6) / 3 {
			s.Needs = append(s.Needs, aNeed(r, p))
		}
		q.Steps = append(q.Steps, s)
		at += r.IntN(5)
	}
	for range r.IntN(3) {
		q.Redlines = append(q.Redlines, api.Redline{Need: aNeed(r, p), Ticks: r.IntN(5)})
	}
	q.Abort = someOrders(r, p, 5)
	return q
}

// someDisorders returns things that go wrong in a plant.
func someDisorders(r *rand.Rand, p api.Plant) []api.Disorder {
	var l []api.Disorder
	for range r.IntN(4) {
		d := api.Disorder{At: r.IntN(12), Kind: r.IntN(2), Rate: amount(r, 0)}
		d.Of = r.IntN([]int{len(p.Valves), len(p.Tanks)}[d.Kind])
		l = append(l, d)
	}
	return l
}

// fill fills the tanks of a system and of its model likewise.
func fill(r *rand.Rand, p api.Plant, put func(tank, content, gas int)) {
	for i, t := range p.Tanks {
		put(i, pick(r, 0, t.Room, r.IntN(t.Room+1)), pick(r, 0, r.IntN(300), r.IntN(300), r.IntN(api.MaxMass+1), api.MaxMass))
	}
}
