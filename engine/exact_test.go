package engine_test

// What the tests share: the example's plant, what can be seen of a system, and a model of the chapter, written in another way, to hold the program against.

import (
	"math"
	"math/big"
	"math/rand/v2"
	"slices"
	"sort"
	"testing"

	"ullage/api"
	"ullage/engine"
)

// random returns a source of numbers that are the same in each run.
func random() *rand.Rand {
	return rand.New(rand.NewPCG(7, 7))
}

// is fails unless a result and its error are what is wanted.
func is[T comparable](t *testing.T, what string, got T, e api.Errno, want T, f api.Errno) {
	t.Helper()
	if got != want || e != f {
		t.Errorf("%s: %v, error %d; want %v, error %d", what, got, e, want, f)
	}
}

// are fails unless a list and its error are what is wanted.
func are[T comparable](t *testing.T, what string, got []T, e api.Errno, want []T, f api.Errno) {
	t.Helper()
	if !slices.Equal(got, want) || e != f {
		t.Errorf("%s: %v, error %d; want %v, error %d", what, got, e, want, f)
	}
}

// open and shut are orders, on and off literals of a valve.
func open(v int) api.Order { return api.Order{Valve: v, Open: true} }

func shut(v int) api.Order { return api.Order{Valve: v} }

func on(v int) api.Lit { return api.Lit{Valve: v, Open: true} }

func off(v int) api.Lit { return api.Lit{Valve: v} }

// example returns the plant of the chapter's examples.
func example(never ...[]api.Lit) api.Plant {
	return api.Plant{
		Tanks:  []api.Tank{{Name: "a", Room: 100, Least: 10, Limit: 500}, {Name: "b", Room: 100, Least: 10, Limit: 500}},
		Valves: []api.Valve{{Name: "v", Travel: 2}, {Name: "w", Travel: 1}},
		Lines:  []api.Line{{From: 0, To: 1, Flow: 30, Valves: []int{0, 1}}, {From: -1, To: 0, Flow: 50, Gas: true, Valves: []int{1}}},
		Never:  never,
	}
}

// valves returns a plant with one tank and valves of these travels, closed at first.
func valves(never [][]api.Lit, travels ...int) api.Plant {
	p := api.Plant{Tanks: []api.Tank{{Name: "t", Room: 1, Least: 1}}, Never: never}
	for i, n := range travels {
		p.Valves = append(p.Valves, api.Valve{Name: string(rune('a' + i)), Travel: n})
	}
	return p
}

// copyOf returns a plant that shares no memory with p.
func copyOf(p api.Plant) api.Plant {
	q := api.Plant{Tanks: slices.Clone(p.Tanks), Valves: slices.Clone(p.Valves)}
	for _, l := range p.Lines {
		l.Valves = slices.Clone(l.Valves)
		q.Lines = append(q.Lines, l)
	}
	for _, l := range p.Never {
		q.Never = append(q.Never, slices.Clone(l))
	}
	return q
}

// made returns a system of a plant.
func made(t *testing.T, p api.Plant) *engine.System {
	t.Helper()
	s, e := engine.New(p)
	if e != api.OK || s == nil {
		t.Fatalf("New: %v, error %d", s, e)
	}
	return s
}

// seen is all that can be seen of a system: the contents, pressures, what was carried, places, wants, what was lost and vented.
func seen(t *testing.T, s *engine.System, p api.Plant) []int {
	t.Helper()
	var l []int
	for kind, many := range []int{len(p.Tanks), len(p.Tanks), len(p.Lines), len(p.Valves)} {
		for i := range many {
			n, e := s.Number(api.Need{Kind: kind, Of: i})
			if e != api.OK {
				t.Errorf("number %d of %d: error %d", kind, i, e)
			}
			l = append(l, n)
		}
	}
	for i := range p.Valves {
		w, e := s.Wanted(i)
		if e != api.OK {
			t.Errorf("wanted %d: error %d", i, e)
		}
		l = append(l, number(w))
	}
	return slices.Concat(l, s.Carried(), s.Lost(), s.Vented())
}

// number returns 1 for what is true.
func number(is bool) int {
	if is {
		return 1
	}
	return 0
}

// model is a system, by the words of the chapter.
type model struct {
	p                                       api.Plant
	content, gas, rate, lost, vented, moved []int
	place                                   []int
	wanted, stuck                           []bool
}

func newModel(p api.Plant) *model {
	tanks, many := len(p.Tanks), len(p.Valves)
	m := &model{p: p, moved: make([]int, len(p.Lines)), place: make([]int, many), wanted: make([]bool, many), stuck: make([]bool, many)}
	for _, l := range []*[]int{&m.content, &m.gas, &m.rate, &m.lost, &m.vented} {
		*l = make([]int, tanks)
	}
	for i, v := range p.Valves {
		m.place[i], m.wanted[i] = number(v.Open)*v.Travel, v.Open
	}
	return m
}

// holds reports whether a literal holds at a place.
func (m *model) holds(l api.Lit) bool {
	return l.Open && m.place[l.Valve] != 0 || !l.Open && m.place[l.Valve] != m.p.Valves[l.Valve].Travel
}

// mayHold reports whether a set may hold, if the valves are wanted so.
func (m *model) mayHold(set []api.Lit, wanted []bool) bool {
	return !slices.ContainsFunc(set, func(l api.Lit) bool { return !m.holds(l) && wanted[l.Valve] != l.Open })
}

// order reports whether an order is not refused.
func (m *model) order(o api.Order) bool {
	then := slices.Clone(m.wanted)
	then[o.Valve] = o.Open
	for _, set := range m.p.Never {
		if m.mayHold(set, then) {
			return false
		}
	}
	m.wanted = then
	return true
}

// pressure returns the pressure of a tank with some gas.
func (m *model) pressure(tank, gas int) int {
	t := m.p.Tanks[tank]
	room := t.Room - m.content[tank]
	if room < t.Least {
		room = t.Least
	}
	n := new(big.Int).Mul(big.NewInt(int64(gas)), big.NewInt(100))
	return int(n.Div(n, big.NewInt(int64(room))).Int64())
}

// step is a part of a tick: the valves move.
func (m *model) step() {
	for i, v := range m.p.Valves {
		switch to := number(m.wanted[i]) * v.Travel; {
		case m.stuck[i]:
		case to > m.place[i]:
			m.place[i]++
		case to < m.place[i]:
			m.place[i]--
		}
	}
}

// tick is a tick.
func (m *model) tick() {
	m.step()
	for i, l := range m.p.Lines {
		if slices.ContainsFunc(l.Valves, func(v int) bool { return m.place[v] < m.p.Valves[v].Travel }) {
			continue
		}
		have, most := m.content, func(tank int) int { return m.p.Tanks[tank].Room }
		if l.Gas {
			have, most = m.gas, func(int) int { return api.MaxMass }
		}
		bounds := []int{l.Flow}
		if l.From >= 0 {
			bounds = append(bounds, have[l.From])
		}
		if l.To >= 0 {
			bounds = append(bounds, most(l.To)-have[l.To])
		}
		n := slices.Min(bounds)
		m.moved[i] += n
		for tank := range have {
			have[tank] += n * (number(tank == l.To) - number(tank == l.From))
		}
	}
	for i, rate := range m.rate {
		left := max(0, m.content[i]-rate)
		m.lost[i] += m.content[i] - left
		m.content[i] = left
	}
	for i, t := range m.p.Tanks {
		off := sort.Search(m.gas[i], func(off int) bool { return m.pressure(i, m.gas[i]-off) <= t.Limit })
		m.gas[i] -= off
		m.vented[i] += off
	}
}

// value returns the number of a need.
func (m *model) value(n api.Need) int {
	return [...]func() int{
		func() int { return m.content[n.Of] },
		func() int { return m.pressure(n.Of, m.gas[n.Of]) },
		func() int { return m.moved[n.Of] },
		func() int { return m.place[n.Of] },
	}[n.Kind]()
}

// seen is what can be seen of a system that is as the model.
func (m *model) seen() []int {
	l := slices.Clone(m.content)
	for i, gas := range m.gas {
		l = append(l, m.pressure(i, gas))
	}
	l = slices.Concat(l, m.moved, m.place)
	for _, w := range m.wanted {
		l = append(l, number(w))
	}
	return slices.Concat(l, m.moved, m.lost, m.vented)
}

// run runs a sequence: each tick's steps are gathered first.
func (m *model) run(q api.Sequence, wrong []api.Disorder) api.Ended {
	x := m.ended(q, wrong)
	for _, o := range q.Abort {
		if x.Why != 0 && !m.order(o) {
			x.Refused++
		}
	}
	return x
}

func (m *model) ended(q api.Sequence, wrong []api.Disorder) api.Ended {
	now := map[int][]int{}
	for i, s := range q.Steps {
		now[s.At] = append(now[s.At], i)
	}
	since := make([]int, len(q.Redlines)) // the last tick at which it was kept
	for i := range since {
		since[i] = -1
	}
	for n := 0; ; n++ {
		for _, d := range wrong {
			if d.At == n && d.Kind == 0 {
				m.stuck[d.Of] = true
			}
			if d.At == n && d.Kind == 1 {
				m.rate[d.Of] = d.Rate
			}
		}
		for _, i := range now[n] {
			for _, o := range q.Steps[i].Orders {
				if !m.order(o) {
					return api.Ended{Why: 1, At: n, Index: i}
				}
			}
		}
		m.tick()
		for i, r := range q.Redlines {
			if v := m.value(r.Need); v >= r.Need.Low && v <= r.Need.High {
				since[i] = n
			} else if n-since[i] > r.Ticks {
				return api.Ended{Why: 3, At: n, Index: i}
			}
		}
		for _, i := range now[n] {
			for _, need := range q.Steps[i].Needs {
				if v := m.value(need); v < need.Low || v > need.High {
					return api.Ended{Why: 2, At: n, Index: i}
				}
			}
		}
		if !slices.ContainsFunc(q.Steps, func(s api.Step) bool { return s.At > n }) {
			return api.Ended{At: n}
		}
	}
}

// row is a row of moves, two bytes a move: orders by valve, closed before open; then a tick.
type row string

const tickMove = "\xff\xff"

// word returns an order as a part of a row.
func word(o api.Order) row {
	return row([]byte{byte(o.Valve), byte(number(o.Open))})
}

// orders returns the orders of a row.
func (r row) orders() []api.Order {
	var l []api.Order
	for ; r != ""; r = r[2:] {
		if r[:2] != tickMove {
			l = append(l, api.Order{Valve: int(r[0]), Open: r[1] == 1})
		}
	}
	return l
}

// spot is a state of the valves, as a text, and the first one of the rows with as few moves as can be that leads to it.
type spot struct {
	state string
	row   row
}

// state returns the state of the valves as a text.
func (m *model) state() string {
	b := make([]byte, 0, 2*len(m.place))
	for i, n := range m.place {
		b = append(b, byte(n), byte(number(m.wanted[i])))
	}
	return string(b)
}

// at returns a model whose valves are in a state.
func (m *model) at(state string) *model {
	c := *m
	c.place, c.wanted = make([]int, len(m.place)), make([]bool, len(m.place))
	for i := range m.place {
		c.place[i], c.wanted[i] = int(state[2*i]), state[2*i+1] == 1
	}
	return &c
}

// spots goes through the states of a plant in the order of their rows, as long as go is true. All states of as many moves are gathered, and sorted by their rows.
func spots(p api.Plant, on func(spot) bool) {
	m := newModel(p)
	known := map[string]bool{m.state(): true}
	level := []spot{{m.state(), ""}}
	for len(level) > 0 {
		for _, s := range level {
			if !on(s) {
				return
			}
		}
		next := map[string]row{}
		for _, s := range level {
			m.follow(s, func(to spot) {
				if r, ok := next[to.state]; !known[to.state] && (!ok || to.row < r) {
					next[to.state] = to.row
				}
			})
		}
		level = nil
		for state, r := range next {
			known[state] = true
			level = append(level, spot{state, r})
		}
		slices.SortFunc(level, func(a, b spot) int { return compareRows(a.row, b.row) })
	}
}

func compareRows(a, b row) int {
	return number(a > b) - number(a < b)
}

// follow calls then with all that a move leads to.
func (m *model) follow(s spot, then func(spot)) {
	for i := range m.place {
		for _, is := range []bool{true, false} {
			o := api.Order{Valve: i, Open: is}
			c := m.at(s.state)
			if c.order(o) {
				then(spot{c.state(), s.row + word(o)})
			}
		}
	}
	c := m.at(s.state)
	c.step()
	then(spot{c.state(), s.row + tickMove})
}

// reaches reports whether a literal of a goal is reached: it holds, and its valve is where it is wanted.
func (m *model) reaches(l api.Lit) bool {
	return m.holds(l) && m.place[l.Valve] == number(m.wanted[l.Valve])*m.p.Valves[l.Valve].Travel
}

// path is Path, by the order of the rows.
func path(p api.Plant, goal []api.Lit) (l []api.Order, e api.Errno) {
	many, e := 0, api.ErrNone
	m := newModel(p)
	spots(p, func(s spot) bool {
		many++
		c := m.at(s.state)
		switch {
		case many > api.MaxStates:
			e = api.ErrLong
		case !slices.ContainsFunc(goal, func(l api.Lit) bool {
			return c.place[l.Valve] != number(l.Open)*p.Valves[l.Valve].Travel || c.wanted[l.Valve] != l.Open
		}):
			l, e = s.row.orders(), api.OK
		}
		return e == api.ErrNone
	})
	return l, e
}

// extremes are numbers that are hardly ever valid.
func extremes() []int {
	return []int{math.MinInt, -1, api.MaxMass + 1, 1 << 32, math.MaxInt}
}
