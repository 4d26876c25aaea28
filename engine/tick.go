package engine

import (
	"math"

	"ullage/api"
)

// outside is where a line begins or ends that has no tank there.
const outside = -1

// plenty is what outside has, and has room for.
const plenty = math.MaxInt

// Tick lets a tick happen.
func (s *System) Tick() api.Errno {
	if !s.isMade() {
		return api.ErrNil
	}
	s.tick()
	return api.OK
}

// tick lets a tick happen.
func (s *System) tick() {
	s.valves.move(s.stuck)
	for i, l := range s.plant.Lines {
		if s.isLineOpen(l) {
			s.carry(i, l)
		}
	}
	for i := range s.tanks {
		s.tanks[i].leak()
	}
	for i, kind := range s.plant.Tanks {
		s.tanks[i].vent(kind)
	}
}

func (s *System) isLineOpen(l api.Line) bool {
	for _, v := range l.Valves {
		if !s.valves.isOpen(v) {
			return false
		}
	}
	return true
}

// carry lets a line carry what it can.
func (s *System) carry(line int, l api.Line) {
	n := min(l.Flow, s.stock(l), s.space(l))
	s.carried[line] += n
	if l.From != outside {
		*s.kept(l.From, l.Gas) -= n
	}
	if l.To != outside {
		*s.kept(l.To, l.Gas) += n
	}
}

// stock returns how much there is where a line begins.
func (s *System) stock(l api.Line) int {
	if l.From == outside {
		return plenty
	}
	return *s.kept(l.From, l.Gas)
}

// space returns how much there is room for where a line ends.
func (s *System) space(l api.Line) int {
	switch {
	case l.To == outside:
		return plenty
	case l.Gas:
		return api.MaxMass - s.tanks[l.To].gas
	}
	return s.plant.Tanks[l.To].Room - s.tanks[l.To].content
}

// kept returns where a tank keeps its gas, or its liquid.
func (s *System) kept(tank int, gas bool) *int {
	if gas {
		return &s.tanks[tank].gas
	}
	return &s.tanks[tank].content
}

// leak loses liquid through a tank's leak.
func (t *tank) leak() {
	n := min(t.rate, t.content)
	t.content -= n
	t.lost += n
}

// vent lets off as little gas as makes the pressure at most the limit.
func (t *tank) vent(kind api.Tank) {
	// The pressure is at most Limit if gas times 100 is below Limit + 1 times the ullage.
	most := ((kind.Limit+1)*t.ullage(kind) - 1) / 100
	if t.gas > most {
		t.vented += t.gas - most
		t.gas = most
	}
}

// pressure returns the pressure of a tank.
func (t *tank) pressure(kind api.Tank) int {
	return t.gas * 100 / t.ullage(kind)
}

// ullage returns the room that is reckoned with for a tank's gas.
func (t *tank) ullage(kind api.Tank) int {
	return max(kind.Least, kind.Room-t.content)
}
