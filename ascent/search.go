package ascent

import (
	"slices"

	"ullage/api"
)

// Why a search ends.
const (
	whyGap = iota
	whyNone
	whyBudget
)

// Search looks for the climb that costs least.
func Search(t api.Ascent, budget int) (api.Found, api.Errno) {
	if CheckTask(t) != api.OK || budget < 0 || budget > api.MaxCells {
		return api.Found{}, api.ErrArg
	}
	all := whole(t)
	if _, e := cost(t, all); e != api.OK {
		return api.Found{}, e
	}
	s := search{task: t}
	s.add(all)
	s.run(budget)
	return s.found, api.OK
}

// candidate is a cell with the Low of its cost.
type candidate struct {
	cell
	low api.Num
}

// search is what a search has found so far: the open cells, in the order in which they came to be, and those that are done.
type search struct {
	task       api.Ascent
	open, done []candidate
	found      api.Found
}

// run goes through cells until the search ends.
func (s *search) run(budget int) {
searching:
	for {
		s.found.Bound = min(least(s.open), least(s.done))
		switch {
		case len(s.open) == 0:
			s.found.Why = whyNone
			break searching
		case s.isGoodEnough():
			s.found.Why = whyGap
			break searching
		case s.found.Cells == budget:
			s.found.Why = whyBudget
			break searching
		}
		s.look()
	}
	s.found.Left = len(s.open) + len(s.done)
}

// isGoodEnough reports whether no climb costs less than the best one by more than the gap.
func (s *search) isGoodEnough() bool {
	return len(s.found.Best) > 0 && s.found.Cost.Hi-s.found.Bound <= s.task.Gap
}

// look looks at the next cell.
func (s *search) look() {
	c := s.take()
	s.found.Cells++
	if judge(s.task, c.cell) < 0 {
		return
	}
	s.try(c.middle())
	low, high, split := c.halves()
	if !split {
		s.done = append(s.done, c)
		return
	}
	s.add(low)
	s.add(high)
}

// take takes the first one of the cells with the least Low from those that are open.
func (s *search) take() candidate {
	low := least(s.open)
	i := slices.IndexFunc(s.open, func(c candidate) bool {
		return c.low == low
	})
	c := s.open[i]
	s.open = slices.Delete(s.open, i, i+1)
	return c
}

// try makes a climb the best one, if it is. Its cost comes first, since a flight takes much longer.
func (s *search) try(c cell) {
	a, _ := cost(s.task, c)
	if len(s.found.Best) > 0 && a.Hi >= s.found.Cost.Hi {
		return
	}
	if judge(s.task, c) > 0 {
		s.found.Best, s.found.Cost = c, a
	}
}

// add opens a cell. The cost of a part of a cell has no error if that of the cell has none.
func (s *search) add(c cell) {
	a, _ := cost(s.task, c)
	s.open = append(s.open, candidate{cell: c, low: a.Lo})
}

// least returns the least Low of cells.
func least(l []candidate) api.Num {
	low := api.MostNum
	for _, c := range l {
		low = min(low, c.low)
	}
	return low
}
