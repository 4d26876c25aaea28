package engine

import "ullage/api"

// What the chapter limits without a name in api.
const (
	mostLineValves = 4
	mostLits       = 4  // of a set of Never
	mostGoal       = 16 // literals of a goal
	mostOfStep     = 16 // orders, and needs
	mostRedlines   = 16
	mostAbort      = 16 // orders
	mostDisorders  = 64
)

// CheckPlant reports whether a plant is valid.
func CheckPlant(p api.Plant) bool {
	return areTanks(p.Tanks) && areValves(p.Valves) && areLines(p) && areRules(p)
}

func areTanks(l []api.Tank) bool {
	if !isWithin(len(l), 1, api.MaxTanks) {
		return false
	}
	names := map[string]bool{}
	for _, t := range l {
		if !isNew(names, t.Name) || !isWithin(t.Room, 1, api.MaxMass) || !isWithin(t.Least, 1, api.MaxMass) || !isWithin(t.Limit, 0, api.MaxMass) {
			return false
		}
	}
	return true
}

func areValves(l []api.Valve) bool {
	if !isWithin(len(l), 1, api.MaxValves) {
		return false
	}
	names := map[string]bool{}
	for _, v := range l {
		if !isNew(names, v.Name) || !isWithin(v.Travel, 1, api.MaxTravel) {
			return false
		}
	}
	return true
}

// isNew reports whether a name has the right length and is none of those before it, and notes it.
func isNew(names map[string]bool, name string) bool {
	if !isWithin(len(name), 1, api.MaxName) || names[name] {
		return false
	}
	names[name] = true
	return true
}

func areLines(p api.Plant) bool {
	if len(p.Lines) > api.MaxLines {
		return false
	}
	for _, l := range p.Lines {
		if !isEnd(p, l.From) || !isEnd(p, l.To) || l.From == l.To || !isWithin(l.Flow, 1, api.MaxMass) || !isWithin(len(l.Valves), 1, mostLineValves) {
			return false
		}
		for _, v := range l.Valves {
			if !isIndex(v, len(p.Valves)) {
				return false
			}
		}
	}
	return true
}

// areRules reports whether the sets of Never are valid, and may not hold at first. The valves have to be valid.
func areRules(p api.Plant) bool {
	if len(p.Never) > api.MaxRules {
		return false
	}
	for _, set := range p.Never {
		if !areLits(p, set, 1, mostLits) {
			return false
		}
	}
	first := newBank(p)
	return !some(p.Never, first.is.possible)
}

// areLits reports whether a set has from least to most literals, all of them valid.
func areLits(p api.Plant, l []api.Lit, least, most int) bool {
	if !isWithin(len(l), least, most) {
		return false
	}
	for _, x := range l {
		if !isIndex(x.Valve, len(p.Valves)) {
			return false
		}
	}
	return true
}

// CheckSequence reports whether a sequence is valid for a plant.
func CheckSequence(p api.Plant, q api.Sequence) bool {
	return CheckPlant(p) && isSequence(p, q)
}

// isSequence reports whether a sequence is valid for a plant that is.
func isSequence(p api.Plant, q api.Sequence) bool {
	if len(q.Steps) > api.MaxSteps || len(q.Redlines) > mostRedlines || !areOrders(p, q.Abort, mostAbort) {
		return false
	}
	before := 0
	for _, s := range q.Steps {
		if !isWithin(s.At, before, api.MaxTicks) || !areOrders(p, s.Orders, mostOfStep) || !areNeeds(p, s.Needs) {
			return false
		}
		before = s.At
	}
	for _, r := range q.Redlines {
		if !isNeed(p, r.Need) || !isWithin(r.Ticks, 0, api.MaxTicks) {
			return false
		}
	}
	return true
}

func areOrders(p api.Plant, l []api.Order, most int) bool {
	if len(l) > most {
		return false
	}
	for _, o := range l {
		if !isIndex(o.Valve, len(p.Valves)) {
			return false
		}
	}
	return true
}

func areNeeds(p api.Plant, l []api.Need) bool {
	if len(l) > mostOfStep {
		return false
	}
	for _, n := range l {
		if !isNeed(p, n) {
			return false
		}
	}
	return true
}

func areDisorders(p api.Plant, l []api.Disorder) bool {
	if len(l) > mostDisorders {
		return false
	}
	for _, d := range l {
		if !isDisorder(p, d) {
			return false
		}
	}
	return true
}

func isDisorder(p api.Plant, d api.Disorder) bool {
	if !isWithin(d.At, 0, api.MaxTicks) || !isWithin(d.Rate, 0, api.MaxMass) {
		return false
	}
	switch d.Kind {
	case sticks:
		return isIndex(d.Of, len(p.Valves))
	case leaks:
		return isIndex(d.Of, len(p.Tanks))
	}
	return false
}

// isEnd reports whether n is where a line may begin or end: outside, or the index of a tank.
func isEnd(p api.Plant, n int) bool {
	return n == outside || isIndex(n, len(p.Tanks))
}

// isIndex reports whether n is an index of a list of so many.
func isIndex(n, many int) bool {
	return 0 <= n && n < many
}

// isWithin reports whether n is from low to high.
func isWithin(n, low, high int) bool {
	return low <= n && n <= high
}
