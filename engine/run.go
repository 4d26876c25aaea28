package engine

import "ullage/api"

// The kinds of needs.
const (
	ofContent = iota
	ofPressure
	ofLine
	ofValve
)

// The kinds of what goes wrong.
const (
	sticks = iota
	leaks
)

// Why a sequence ended.
const (
	isDone = iota
	byOrder
	byNeed
	byRedline
)

// isNeed reports whether a need is valid for a plant.
func isNeed(p api.Plant, n api.Need) bool {
	switch n.Kind {
	case ofContent, ofPressure:
		return isIndex(n.Of, len(p.Tanks))
	case ofLine:
		return isIndex(n.Of, len(p.Lines))
	case ofValve:
		return isIndex(n.Of, len(p.Valves))
	}
	return false
}

// Number returns the number of a need.
func (s *System) Number(n api.Need) (int, api.Errno) {
	switch {
	case !s.isMade():
		return 0, api.ErrNil
	case !isNeed(s.plant, n):
		return 0, api.ErrArg
	}
	return s.number(n), api.OK
}

// number returns the number of a need that is valid.
func (s *System) number(n api.Need) int {
	switch n.Kind {
	case ofContent:
		return s.tanks[n.Of].content
	case ofPressure:
		return s.tanks[n.Of].pressure(s.plant.Tanks[n.Of])
	case ofLine:
		return s.carried[n.Of]
	}
	return int(s.valves.at[n.Of].place)
}

// isKept reports whether a need is kept.
func (s *System) isKept(n api.Need) bool {
	return isWithin(s.number(n), n.Low, n.High)
}

// Run runs a sequence.
func (s *System) Run(q api.Sequence, l []api.Disorder) (api.Ended, api.Errno) {
	switch {
	case !s.isMade():
		return api.Ended{}, api.ErrNil
	case !isSequence(s.plant, q) || !areDisorders(s.plant, l):
		return api.Ended{}, api.ErrArg
	}
	end := s.play(q, l)
	if end.Why != isDone {
		end.Refused = s.abort(q.Abort)
	}
	return end, api.OK
}

// play runs a sequence up to its end, without an abort.
func (s *System) play(q api.Sequence, wrong []api.Disorder) api.Ended {
	end := api.Ended{Why: isDone}
	last := 0
	for _, step := range q.Steps {
		last = step.At
	}
	hurt := make([]int, len(q.Redlines)) // at how many ticks, one after the other
run:
	for n := 0; n <= last; n++ {
		end.At = n
		s.goWrong(wrong, n)
		for i, step := range q.Steps {
			if step.At == n && !s.giveAll(step.Orders) {
				end.Why, end.Index = byOrder, i
				break run
			}
		}
		s.tick()
		for i, r := range q.Redlines {
			hurt[i]++
			if s.isKept(r.Need) {
				hurt[i] = 0
			}
			if hurt[i] > r.Ticks {
				end.Why, end.Index = byRedline, i
				break run
			}
		}
		for i, step := range q.Steps {
			if step.At == n && !s.areKept(step.Needs) {
				end.Why, end.Index = byNeed, i
				break run
			}
		}
	}
	return end
}

// goWrong lets happen what goes wrong at a tick.
func (s *System) goWrong(l []api.Disorder, tick int) {
	for _, d := range l {
		switch {
		case d.At != tick:
		case d.Kind == sticks:
			s.stuck[d.Of] = true
		default:
			s.tanks[d.Of].rate = d.Rate
		}
	}
}

// giveAll gives orders up to the first one that is refused, and reports whether there is none.
func (s *System) giveAll(l []api.Order) bool {
	for _, o := range l {
		if !s.valves.order(o) {
			return false
		}
	}
	return true
}

// areKept reports whether all needs of a list are kept.
func (s *System) areKept(l []api.Need) bool {
	for _, n := range l {
		if !s.isKept(n) {
			return false
		}
	}
	return true
}

// abort gives the orders of an abort, and returns how many were refused.
func (s *System) abort(l []api.Order) int {
	refused := 0
	for _, o := range l {
		if !s.valves.order(o) {
			refused++
		}
	}
	return refused
}
