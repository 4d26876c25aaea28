package engine

import (
	"slices"

	"ullage/api"
)

// queue is a list of what comes next.
type queue[T any] struct {
	list []T
	gone int
}

func (q *queue[T]) put(x T) {
	q.list = append(q.list, x)
}

// take takes the one that was put first, if there is one.
func (q *queue[T]) take() (x T, ok bool) {
	if q.gone == len(q.list) {
		return x, false
	}
	q.gone++
	return q.list[q.gone-1], true
}

// move is an order, or a tick.
type move struct {
	order  api.Order
	isTick bool
}

// arrival is how a state of the valves was reached: from which one, by which move.
type arrival struct {
	from places
	by   move
}

// search looks at the states of a plant's valves in the order in which they are reached.
type search struct {
	valves *bank // in the state that is looked at
	goal   []api.Lit
	first  places
	known  map[places]arrival
	next   queue[places]
}

// Path returns the orders that lead to a goal.
func Path(p api.Plant, goal []api.Lit) ([]api.Order, api.Errno) {
	if !CheckPlant(p) || !areLits(p, goal, 1, mostGoal) {
		return nil, api.ErrArg
	}
	b := newBank(p)
	s := &search{valves: b, goal: goal, first: b.at, known: map[places]arrival{b.at: {}}}
	if s.isReached() {
		return nil, api.OK
	}
	s.next.put(s.first)
	return s.run()
}

// isReached reports whether the goal is reached.
func (s *search) isReached() bool {
	return all(s.goal, s.valves.is.reached)
}

// run looks at states until the goal is reached. Each one is reached by its first row, since they are taken in the order of their rows, and their moves are tried in order.
func (s *search) run() ([]api.Order, api.Errno) {
	for from, ok := s.next.take(); ok; from, ok = s.next.take() {
		for _, m := range s.moves(from) {
			if !s.make(from, m) {
				continue
			}
			to := s.valves.at
			if _, ok := s.known[to]; ok {
				continue
			}
			if len(s.known) == api.MaxStates {
				return nil, api.ErrLong
			}
			s.known[to] = arrival{from, m}
			if s.isReached() {
				return s.orders(to), api.OK
			}
			s.next.put(to)
		}
	}
	return nil, api.ErrNone
}

// moves returns the moves of a state, in order, also those that are refused. Of the two orders for a valve only one changes something.
func (s *search) moves(from places) []move {
	var l []move
	for i := range s.valves.kinds {
		l = append(l, move{order: api.Order{Valve: i, Open: !from[i].open}})
	}
	return append(l, move{isTick: true})
}

// make makes a move from a state, and reports whether it is not refused.
func (s *search) make(from places, m move) bool {
	s.valves.at = from
	if m.isTick {
		s.valves.move([api.MaxValves]bool{})
		return true
	}
	return s.valves.order(m.order)
}

// orders returns the orders of the row of moves that leads to a state.
func (s *search) orders(to places) []api.Order {
	var l []api.Order
	for to != s.first {
		a := s.known[to]
		if !a.by.isTick {
			l = append(l, a.by.order)
		}
		to = a.from
	}
	slices.Reverse(l)
	return l
}
