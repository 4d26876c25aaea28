package engine_test

// P7.6 (Path) and P7.10 (its orders lead to the goal).

import (
	"math"
	"slices"
	"testing"

	"ullage/api"
	"ullage/engine"
)

func TestPathByHand(t *testing.T) {
	never := func(l ...[]api.Lit) [][]api.Lit { return l }
	for i, c := range []struct {
		p    api.Plant
		goal []api.Lit
		want []api.Order
		e    api.Errno
	}{
		{example(), []api.Lit{on(0)}, []api.Order{open(0)}, api.OK},
		{example(), []api.Lit{off(0)}, nil, api.OK},
		{example(), []api.Lit{off(1), off(0), off(1)}, nil, api.OK},
		{example(), []api.Lit{on(0), off(0)}, nil, api.ErrNone},
		{example(), []api.Lit{on(0), on(1)}, []api.Order{open(0), open(1)}, api.OK},
		{example([]api.Lit{on(0), on(1)}), []api.Lit{on(0), on(1)}, nil, api.ErrNone},
		{example([]api.Lit{on(0)}), []api.Lit{on(0)}, nil, api.ErrNone},

		// The slow valve is ordered first: its ticks are those of the other one, too.
		{valves(nil, 1, 3), []api.Lit{on(0), on(1)}, []api.Order{open(0), open(1)}, api.OK},
		{valves(nil, 3, 1), []api.Lit{on(1), on(0)}, []api.Order{open(0), open(1)}, api.OK},

		// b may open only while a is not open, and c only while b is.
		{valves(never([]api.Lit{on(0), off(1)}, []api.Lit{on(1), off(2)}), 1, 1, 1), []api.Lit{on(0)}, []api.Order{open(2), open(1), open(0)}, api.OK},

		// b has to be closed again, for c to open: then a may not.
		{valves(never([]api.Lit{on(0), off(1)}, []api.Lit{on(1), on(2)}), 2, 2, 2), []api.Lit{on(0), on(2)}, nil, api.ErrNone},

		// a has to be on its way only: it need not have been open.
		{valves(never([]api.Lit{on(1), off(2)}, []api.Lit{on(2), on(3)}), 1, 1, 1, 1), []api.Lit{on(1), off(3)}, []api.Order{open(2), open(1)}, api.OK},
		{valves(nil, 8, 8, 8), []api.Lit{on(2), on(2), on(0)}, []api.Order{open(0), open(2)}, api.OK},
	} {
		l, e := engine.Path(c.p, c.goal)
		are(t, "Path", l, e, c.want, c.e)
		if t.Failed() {
			t.Fatalf("case %d", i)
		}
	}
	p := example()
	p.Valves[0].Open = true
	l, e := engine.Path(p, []api.Lit{off(0)})
	are(t, "Path of an open valve", l, e, []api.Order{shut(0)}, api.OK)
}

// Goals that are not valid, of plants that are.
func TestPathGoals(t *testing.T) {
	for _, l := range [][]api.Lit{nil, {}, {on(-1)}, {on(2)}, {off(0), on(1), off(2)}, {on(math.MinInt)}, {on(math.MaxInt)}, slices.Repeat([]api.Lit{off(0)}, 17), slices.Repeat([]api.Lit{on(0)}, 17)} {
		o, e := engine.Path(example(), l)
		are(t, "Path to what is not valid", o, e, nil, api.ErrArg)
	}
	o, e := engine.Path(example(), slices.Repeat([]api.Lit{on(0)}, 16))
	are(t, "Path to many", o, e, []api.Order{open(0)}, api.OK)
	o, e = engine.Path(example([]api.Lit{off(0)}), []api.Lit{on(0)})
	are(t, "Path of what is not valid", o, e, nil, api.ErrArg)
}

// How many states there are: 2 (Travel + 1) of a valve that is alone, 2 (sum of both Travels) + 3 of two of which one at least has to be closed.
func TestPathLong(t *testing.T) {
	both := [][]api.Lit{{on(0), on(1)}, {on(2), on(3)}}
	nowhere := []api.Lit{on(0), off(0)}
	for _, c := range []struct {
		p    api.Plant
		many int
		e    api.Errno
	}{
		{valves(nil, 1, 1, 1, 1, 1, 1, 1), 16384, api.ErrNone},
		{valves(nil, 1, 1, 1, 1, 1, 1, 1, 1), 65536, api.ErrLong},
		{valves(both, 8, 3, 8, 3, 1, 3), 20000, api.ErrNone},
		{valves(both, 8, 3, 8, 3, 1, 4), 25000, api.ErrLong},
	} {
		l, e := engine.Path(c.p, nowhere)
		are(t, "Path to nowhere", l, e, nil, c.e)
		many := 0
		spots(c.p, func(spot) bool { many++; return true })
		if many != c.many {
			t.Errorf("%d states, want %d", many, c.many)
		}
	}
	l, e := engine.Path(valves(nil, 1, 1, 1, 1, 1, 1, 1, 1, 1, 1, 1, 1), []api.Lit{on(11)})
	are(t, "Path of many valves", l, e, []api.Order{open(11)}, api.OK)
}

// Goals whose state is the last one that may be reached, and the one behind it.
func TestPathLast(t *testing.T) {
	lits := func(open ...bool) (l []api.Lit) {
		for i, is := range open {
			l = append(l, api.Lit{Valve: i, Open: is})
		}
		return l
	}
	last := valves(nil, 1, 1, 1, 1, 1, 1, 5)
	over := valves(nil, 1, 1, 1, 5, 1, 3, 2)
	over.Valves[3].Open, over.Valves[5].Open = true, true
	for _, c := range []struct {
		p    api.Plant
		goal []api.Lit
		at   int
		want []api.Order
		e    api.Errno
	}{
		{last, lits(false, false, false, true, true, true, true), 20000, []api.Order{open(3), open(4), open(5), open(6)}, api.OK},
		{over, lits(false, false, true, false, true, true, false), 20001, nil, api.ErrLong},
	} {
		l, e := engine.Path(c.p, c.goal)
		are(t, "Path to the last", l, e, c.want, c.e)
		many := 0
		m := newModel(c.p)
		spots(c.p, func(s spot) bool {
			many++
			return slices.ContainsFunc(c.goal, func(l api.Lit) bool { return !m.at(s.state).reaches(l) })
		})
		if many != c.at {
			t.Errorf("the goal is the state %d, want %d", many, c.at)
		}
	}
}

// aGoal returns literals for a plant, mostly of where its valves are not at first.
func aGoal(p api.Plant, lits []api.Lit, turn func() bool) []api.Lit {
	for i, l := range lits {
		if turn() {
			lits[i].Open = !p.Valves[l.Valve].Open
		}
	}
	return lits
}

// Random plants and goals: the path is the one of the model, and what the search is given is only read.
func TestPathsAsTheModel(t *testing.T) {
	r := random()
	errors, orders := map[api.Errno]int{}, map[int]int{}
	for range 1200 {
		p := aPlant(r, 6)
		goal := aGoal(p, someLits(r, p, 1+r.IntN(4)), func() bool { return r.IntN(2) == 0 })
		kept, keptGoal := copyOf(p), slices.Clone(goal)
		l, e := engine.Path(p, goal)
		if !slices.Equal(goal, keptGoal) || !samePlants(p, kept) {
			t.Fatalf("an argument has changed: %v, %v", p, goal)
		}
		errors[e]++
		orders[len(l)]++
		want, f := path(p, goal)
		if are(t, "Path", l, e, want, f); t.Failed() {
			t.Fatalf("plant %v, goal %v", p, goal)
		}
	}
	if errors[api.OK] < 400 || errors[api.ErrNone] < 300 || errors[api.ErrLong] < 8 || orders[1] < 200 || orders[2] < 100 || orders[3] < 40 {
		t.Errorf("errors %v, orders %v", errors, orders)
	}
}

func samePlants(a, b api.Plant) bool {
	return slices.Equal(a.Tanks, b.Tanks) && slices.Equal(a.Valves, b.Valves) && slices.EqualFunc(a.Never, b.Never, slices.Equal) && slices.EqualFunc(a.Lines, b.Lines, func(x, y api.Line) bool {
		return x.From == y.From && x.To == y.To && x.Flow == y.Flow && x.Gas == y.Gas && slices.Equal(x.Valves, y.Valves)
	})
}

// P7.10: with enough ticks behind each one the orders are not refused, and lead to the goal; where there is no path, no random orders and ticks reach it.
func TestPathsLead(t *testing.T) {
	r := random()
	paths, nones := 0, 0
	for range 3000 {
		p := aPlant(r, 6)
		goal := aGoal(p, someLits(r, p, 1+r.IntN(4)), func() bool { return r.IntN(2) == 0 })
		l, e := engine.Path(p, goal)
		s, m := made(t, p), newModel(p)
		if e == api.ErrNone {
			nones++
			for range 200 {
				if o := (api.Order{Valve: r.IntN(len(p.Valves)), Open: r.IntN(2) == 0}); r.IntN(3) > 0 {
					m.order(o)
				} else {
					m.step()
				}
				if !slices.ContainsFunc(goal, func(l api.Lit) bool { return !m.reaches(l) }) {
					t.Fatalf("plant %v, goal %v is reached", p, goal)
				}
			}
		}
		for _, o := range l {
			paths++
			if f := s.Order(o); f != api.OK {
				t.Fatalf("plant %v, goal %v: %v is refused", p, goal, o)
			}
			for range api.MaxTravel {
				s.Tick()
			}
		}
		for _, x := range goal {
			if e == api.OK && (what(t, s, 3, x.Valve) != number(x.Open)*p.Valves[x.Valve].Travel || !s.Holds(goal)) {
				t.Fatalf("plant %v, goal %v: %v does not lead there", p, goal, l)
			}
		}
	}
	if paths < 2000 || nones < 300 {
		t.Errorf("%d orders, %d goals without a path", paths, nones)
	}
}
