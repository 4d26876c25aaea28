package engine

import "ullage/api"

// valve is the state of a valve: its place, and whether it is wanted open. It is small, since a search keeps many of them.
type valve struct {
	place int8
	open  bool
}

// places is the state of all valves; those that a plant does not have are zero.
type places [api.MaxValves]valve

// bank is the valves of a plant in some state, with the sets that must never hold.
type bank struct {
	kinds []api.Valve
	never [][]api.Lit
	at    places
	is    questions
}

// questions is what is asked of a literal in the state that its bank has when it is asked.
type questions struct {
	holding  func(l api.Lit) bool // it holds
	possible func(l api.Lit) bool // it may hold
	reached  func(l api.Lit) bool // it holds, and its valve is where it is wanted
}

// newBank returns the valves of a plant in their first state. It reads the plant's lists as long as it is used.
func newBank(p api.Plant) *bank {
	b := &bank{kinds: p.Valves, never: p.Never}
	for i, v := range p.Valves {
		b.at[i].open = v.Open
		b.at[i].place = b.end(i)
	}
	b.is.holding = func(l api.Lit) bool {
		if l.Open {
			return b.at[l.Valve].place > 0
		}
		return b.at[l.Valve].place < int8(b.kinds[l.Valve].Travel)
	}
	b.is.possible = func(l api.Lit) bool {
		return b.is.holding(l) || l.Open == b.at[l.Valve].open
	}
	b.is.reached = func(l api.Lit) bool {
		return b.is.holding(l) && b.at[l.Valve].place == b.end(l.Valve)
	}
	return b
}

// end returns the place at which a valve is wanted.
func (b *bank) end(valve int) int8 {
	if b.at[valve].open {
		return int8(b.kinds[valve].Travel)
	}
	return 0
}

// order orders where a valve is wanted, and reports whether that is not refused.
func (b *bank) order(o api.Order) bool {
	v := &b.at[o.Valve]
	before := v.open
	v.open = o.Open
	if some(b.never, b.is.possible) {
		v.open = before
		return false
	}
	return true
}

// move moves each valve that does not stick towards where it is wanted.
func (b *bank) move(stuck [api.MaxValves]bool) {
	for i := range b.kinds {
		end := b.end(i)
		switch {
		case stuck[i]:
		case b.at[i].place < end:
			b.at[i].place++
		case b.at[i].place > end:
			b.at[i].place--
		}
	}
}

// isOpen reports whether a valve is open, and not only on its way.
func (b *bank) isOpen(valve int) bool {
	return int(b.at[valve].place) == b.kinds[valve].Travel
}

// all reports whether something is so of all literals of a set.
func all(set []api.Lit, is func(l api.Lit) bool) bool {
	for _, l := range set {
		if !is(l) {
			return false
		}
	}
	return true
}

// some reports whether there is a set of whose literals something is so.
func some(sets [][]api.Lit, is func(l api.Lit) bool) bool {
	for _, set := range sets {
		if all(set, is) {
			return true
		}
	}
	return false
}
