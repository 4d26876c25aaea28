package engine_test

// P7.2 (New, Put), P7.3 (Order, Stick, Leak), P7.4 (Tick, Number, Wanted, Carried, Lost, Vented, Holds).

import (
	"math"
	"math/rand/v2"
	"slices"
	"testing"

	"ullage/api"
	"ullage/engine"
)

// what returns the number of a need.
func what(t *testing.T, s *engine.System, kind, of int) int {
	t.Helper()
	n, e := s.Number(api.Need{Kind: kind, Of: of})
	if e != api.OK {
		t.Errorf("Number of %d, %d: error %d", kind, of, e)
	}
	return n
}

// A system that New returned begins with nothing, and its valves at the ends at which they are wanted.
func TestFirstState(t *testing.T) {
	p := example()
	p.Valves[0].Open = true
	s := made(t, p)
	if got, want := seen(t, s, p), []int{0, 0, 0, 0, 0, 0, 2, 0, 1, 0, 0, 0, 0, 0, 0, 0}; !slices.Equal(got, want) {
		t.Errorf("at first %v, want %v", got, want)
	}
	for range 3 {
		s.Tick()
	}
	if got, want := seen(t, s, p), []int{0, 0, 0, 0, 0, 0, 2, 0, 1, 0, 0, 0, 0, 0, 0, 0}; !slices.Equal(got, want) {
		t.Errorf("three ticks behind %v, want %v", got, want)
	}
}

// The order of errors: the tank first, then the numbers; with an error nothing has changed.
func TestErrorsOfCalls(t *testing.T) {
	p := example([]api.Lit{on(0), on(1)})
	s := made(t, p)
	s.Put(0, 50, 60)
	s.Put(1, 7, 8)
	before := seen(t, s, p)
	for _, n := range []int{-1, 2, 3, math.MinInt, math.MaxInt} {
		w, wanted := s.Wanted(n)
		is(t, "Wanted", w, wanted, false, api.ErrNone)
		for i, e := range []api.Errno{s.Put(n, -1, -1), s.Put(n, 1, 1), s.Order(open(n)), s.Order(shut(n)), s.Stick(n, true), s.Leak(n, -1), s.Leak(n, 1)} {
			if e != api.ErrNone {
				t.Errorf("call %d of %d: error %d, want %d", i, n, e, api.ErrNone)
			}
		}
	}
	for _, n := range append(extremes(), 101, api.MaxMass) {
		if e := s.Put(0, n, 0); e != api.ErrRange {
			t.Errorf("content %d: error %d", n, e)
		}
	}
	for _, n := range extremes() {
		if e, f := s.Put(0, 0, n), s.Leak(0, n); e != api.ErrRange || f != api.ErrRange {
			t.Errorf("gas %d: error %d; leak: error %d", n, e, f)
		}
	}
	s.Order(open(0))
	before[8] = 1
	if e := s.Order(open(1)); e != api.ErrState || !slices.Equal(seen(t, s, p), before) {
		t.Errorf("error %d; %v, want %v", e, seen(t, s, p), before)
	}
	for i, e := range []api.Errno{s.Put(0, 0, 0), s.Put(0, 100, api.MaxMass), s.Put(1, 100, 0), s.Leak(1, 0), s.Leak(0, api.MaxMass), s.Stick(1, false), s.Order(open(0)), s.Order(shut(1))} {
		if e != api.OK {
			t.Errorf("call %d at the ends of ranges: error %d", i, e)
		}
	}
}

// A nil system, a zero one, and a copy of one are none.
func TestNoSystem(t *testing.T) {
	true1 := made(t, example())
	true1.Order(open(0))
	other := *true1
	for _, s := range []*engine.System{nil, {}, &other} {
		n, e := s.Number(api.Need{Kind: -1})
		is(t, "Number", n, e, 0, api.ErrNil)
		w, e := s.Wanted(-1)
		is(t, "Wanted", w, e, false, api.ErrNil)
		w, e = s.Wanted(0)
		is(t, "Wanted", w, e, false, api.ErrNil)
		x, e := s.Run(api.Sequence{Steps: make([]api.Step, 99)}, nil)
		is(t, "Run", x, e, api.Ended{}, api.ErrNil)
		x, e = s.Run(api.Sequence{}, nil)
		is(t, "Run", x, e, api.Ended{}, api.ErrNil)
		for i, e := range []api.Errno{s.Put(-1, -1, -1), s.Put(0, 0, 0), s.Order(open(-1)), s.Order(open(0)), s.Stick(-1, true), s.Leak(-1, -1), s.Leak(0, 0), s.Tick()} {
			if e != api.ErrNil {
				t.Errorf("call %d: error %d", i, e)
			}
		}
		if len(s.Carried())+len(s.Lost())+len(s.Vented()) != 0 || s.Holds([]api.Lit{off(0)}) || s.Holds(nil) {
			t.Error("something of no system")
		}
	}
	if what(t, true1, 3, 0) != 0 || true1.Tick() != api.OK || what(t, true1, 3, 0) != 1 {
		t.Error("a copy has changed the system")
	}
}

// The chapter's examples.
func TestExamples(t *testing.T) {
	s := made(t, example())
	for i, e := range []api.Errno{s.Put(0, 80, 0), s.Order(open(0)), s.Order(open(1)), s.Tick(), s.Tick()} {
		if e != api.OK {
			t.Errorf("call %d: error %d", i, e)
		}
	}
	if got, want := seen(t, s, example()), []int{50, 30, 200, 0, 30, 100, 2, 1, 1, 1, 30, 100, 0, 0, 0, 0}; !slices.Equal(got, want) {
		t.Errorf("%v, want %v", got, want)
	}
	both := []api.Lit{on(0), on(1)}
	s = made(t, example(both))
	if e, f := s.Order(open(0)), s.Order(open(1)); e != api.OK || f != api.ErrState {
		t.Errorf("open v, open w: errors %d, %d", e, f)
	}
	if e, f := s.Order(shut(0)), s.Order(open(1)); e != api.OK || f != api.OK {
		t.Errorf("close v, open w: errors %d, %d", e, f)
	}
	s = made(t, example(both))
	s.Order(open(0))
	s.Tick()
	if e, f := s.Order(shut(0)), s.Order(open(1)); e != api.OK || f != api.ErrState {
		t.Errorf("close v behind a tick, open w: errors %d, %d", e, f)
	}
	l, e := engine.Path(example(), []api.Lit{on(0)})
	are(t, "Path", l, e, []api.Order{open(0)}, api.OK)
	l, e = engine.Path(example(both), both)
	are(t, "Path", l, e, nil, api.ErrNone)
}

// A valve moves by 1 at a tick, turns back on its way, stays where it sticks, and goes on behind that.
func TestPlaces(t *testing.T) {
	s := made(t, valves(nil, 3, 1))
	for i, c := range []struct {
		do   func()
		want [2]int
	}{
		{func() { s.Order(open(0)) }, [2]int{1, 0}},
		{func() { s.Order(open(1)) }, [2]int{2, 1}},
		{func() { s.Order(shut(0)) }, [2]int{1, 1}},
		{func() { s.Order(open(0)); s.Stick(0, true) }, [2]int{1, 1}},
		{func() { s.Order(shut(1)); s.Stick(1, false) }, [2]int{1, 0}},
		{func() { s.Stick(0, false) }, [2]int{2, 0}},
		{func() {}, [2]int{3, 0}},
		{func() {}, [2]int{3, 0}},
		{func() { s.Stick(0, true); s.Order(shut(0)) }, [2]int{3, 0}},
		{func() { s.Stick(0, false) }, [2]int{2, 0}},
	} {
		c.do()
		s.Tick()
		if got := [2]int{what(t, s, 3, 0), what(t, s, 3, 1)}; got != c.want {
			t.Errorf("tick %d: places %v, want %v", i, got, c.want)
		}
	}
	if w, e := s.Wanted(0); w || e != api.OK {
		t.Errorf("wanted %t, error %d", w, e)
	}
	if w, e := s.Wanted(1); w || e != api.OK {
		t.Errorf("wanted %t, error %d", w, e)
	}
}

// What literals hold at the ends of a valve, and in between.
func TestHolds(t *testing.T) {
	s := made(t, valves(nil, 2, 1))
	for place, want := range [][2]bool{{false, true}, {true, true}, {true, false}} {
		if got := [2]bool{s.Holds([]api.Lit{on(0)}), s.Holds([]api.Lit{off(0)})}; got != want {
			t.Errorf("at the place %d: %v, want %v", place, got, want)
		}
		both := want[0] && want[1]
		if s.Holds([]api.Lit{on(0), off(0)}) != both || s.Holds([]api.Lit{off(0), on(0), off(1)}) != both || s.Holds([]api.Lit{on(0), off(0), on(1)}) {
			t.Errorf("both at the place %d: %t", place, !both)
		}
		s.Order(open(0))
		s.Tick()
	}
	for _, l := range [][]api.Lit{nil, {}, {on(-1)}, {on(2)}, {off(math.MaxInt)}, {off(math.MinInt)}, {on(0), off(1), off(2)}} {
		if s.Holds(l) {
			t.Errorf("%v holds", l)
		}
	}
	if !s.Holds(slices.Repeat([]api.Lit{on(0), off(1)}, 1000)) {
		t.Error("many literals do not hold")
	}
}

// Lines carry in their order, and each one what it can.
func TestLines(t *testing.T) {
	p := api.Plant{
		Tanks:  []api.Tank{{Name: "a", Room: 100, Least: 100, Limit: api.MaxMass}, {Name: "b", Room: 50, Least: 100, Limit: api.MaxMass}},
		Valves: []api.Valve{{Name: "v", Travel: 1, Open: true}, {Name: "w", Travel: 2}},
	}
	for i, c := range []struct {
		lines            []api.Line
		carried, content []int
		pressures        []int
	}{
		{[]api.Line{{From: 0, To: 1, Flow: 7}}, []int{7}, []int{23, 47}, []int{60, 80}},
		{[]api.Line{{From: 0, To: 1, Flow: 10}}, []int{10}, []int{20, 50}, []int{60, 80}},
		{[]api.Line{{From: 0, To: 1, Flow: 11}}, []int{10}, []int{20, 50}, []int{60, 80}},
		{[]api.Line{{From: 0, To: -1, Flow: 31}}, []int{30}, []int{0, 40}, []int{60, 80}},
		{[]api.Line{{From: -1, To: 0, Flow: 71}}, []int{70}, []int{100, 40}, []int{60, 80}},
		{[]api.Line{{From: -1, To: 0, Flow: 69}}, []int{69}, []int{99, 40}, []int{60, 80}},
		{[]api.Line{{From: 0, To: 1, Flow: 61, Gas: true}}, []int{60}, []int{30, 40}, []int{0, 140}},
		{[]api.Line{{From: 0, To: 1, Flow: 59, Gas: true}}, []int{59}, []int{30, 40}, []int{1, 139}},
		{[]api.Line{{From: 1, To: -1, Flow: 80, Gas: true}}, []int{80}, []int{30, 40}, []int{60, 0}},
		{[]api.Line{{From: -1, To: 1, Flow: api.MaxMass, Gas: true}}, []int{api.MaxMass - 80}, []int{30, 40}, []int{60, api.MaxMass}},
		{[]api.Line{{From: 0, To: 1, Flow: 10}, {From: 1, To: -1, Flow: 45}, {From: 0, To: 1, Flow: 45}}, []int{10, 45, 20}, []int{0, 25}, []int{60, 80}},
		{[]api.Line{{From: 1, To: -1, Flow: 45}, {From: 0, To: 1, Flow: 10}}, []int{40, 10}, []int{20, 10}, []int{60, 80}},
		{[]api.Line{{From: 0, To: 1, Flow: 7, Valves: []int{0, 1}}, {From: 0, To: 1, Flow: 3, Valves: []int{0, 0}}}, []int{0, 3}, []int{27, 43}, []int{60, 80}},
	} {
		for k, l := range c.lines {
			if l.Valves == nil {
				c.lines[k].Valves = []int{0}
			}
		}
		p.Lines = c.lines
		s := made(t, p)
		s.Put(0, 30, 60)
		s.Put(1, 40, 80)
		s.Order(open(1))
		s.Tick()
		if got := s.Carried(); !slices.Equal(got, c.carried) {
			t.Errorf("case %d: carried %v, want %v", i, got, c.carried)
		}
		contents, pressures := []int{what(t, s, 0, 0), what(t, s, 0, 1)}, []int{what(t, s, 1, 0), what(t, s, 1, 1)}
		if !slices.Equal(contents, c.content) || !slices.Equal(pressures, c.pressures) {
			t.Errorf("case %d: contents %v, pressures %v; want %v, %v", i, contents, pressures, c.content, c.pressures)
		}
	}
}

// A tank of Room 100 and Least 10: what leaks, and what is vented behind that.
func TestLeaksAndVents(t *testing.T) {
	for i, c := range []struct {
		content, gas, rate, limit   int
		left, lost, vented, pressed int
	}{
		{50, 100, 7, 1000, 43, 7, 0, 175},
		{50, 100, 50, 1000, 0, 50, 0, 100},
		{50, 100, 51, 1000, 0, 50, 0, 100},
		{50, 100, api.MaxMass, 99, 0, 50, 1, 99},
		{95, 100, 0, 1000, 95, 0, 0, 1000},
		{95, 100, 0, 999, 95, 0, 1, 990},
		{95, 100, 0, 989, 95, 0, 2, 980},
		{95, 100, 1, 500, 94, 1, 50, 500},
		{90, 100, 1, 500, 89, 1, 45, 500},
		{90, 100, 1, 509, 89, 1, 44, 509},
		{67, 100, 0, 303, 67, 0, 0, 303},
		{67, 100, 0, 302, 67, 0, 1, 300},
		{50, 1, 0, 1, 50, 0, 1, 0},
		{50, 1, 0, 2, 50, 0, 0, 2},
		{100, 1, 0, 0, 100, 0, 1, 0},
		{0, api.MaxMass, 0, 0, 0, 0, api.MaxMass, 0},
		{0, api.MaxMass, 0, api.MaxMass, 0, 0, 0, api.MaxMass},
		{1, api.MaxMass, 0, api.MaxMass, 1, 0, api.MaxMass - ((api.MaxMass+1)*99-1)/100, api.MaxMass},
	} {
		p := api.Plant{Tanks: []api.Tank{{Name: "a", Room: 100, Least: 10, Limit: c.limit}}, Valves: manyValves(1)}
		s := made(t, p)
		s.Put(0, c.content, c.gas)
		s.Leak(0, c.rate)
		if s.Lost()[0] != 0 || s.Vented()[0] != 0 {
			t.Errorf("case %d: something is lost ahead of a tick", i)
		}
		s.Tick()
		if got, want := [4]int{what(t, s, 0, 0), s.Lost()[0], s.Vented()[0], what(t, s, 1, 0)}, [4]int{c.left, c.lost, c.vented, c.pressed}; got != want {
			t.Errorf("case %d: %v, want %v", i, got, want)
		}
	}
}

// The largest numbers: the rooms and limits are as large as can be.
func TestLargest(t *testing.T) {
	p := api.Plant{Tanks: []api.Tank{{Name: "a", Room: api.MaxMass, Least: api.MaxMass, Limit: api.MaxMass}, {Name: "b", Room: api.MaxMass, Least: 1, Limit: api.MaxMass}}, Valves: manyValves(1)}
	s := made(t, p)
	s.Put(0, api.MaxMass, api.MaxMass)
	s.Put(1, api.MaxMass, api.MaxMass)
	if a, b := what(t, s, 1, 0), what(t, s, 1, 1); a != 100 || b != 100*api.MaxMass {
		t.Errorf("pressures %d, %d", a, b)
	}
	s.Tick()
	if a, b, v := what(t, s, 1, 0), what(t, s, 1, 1), s.Vented()[1]; a != 100 || b != 1073741800 || v != api.MaxMass-10737418 {
		t.Errorf("pressures %d, %d; vented %d", a, b, v)
	}
}

// do makes a random call of a system and of its model, and returns both errors.
func do(r *rand.Rand, p api.Plant, s *engine.System, m *model) (got, want api.Errno) {
	tank, valve := r.IntN(len(p.Tanks)), r.IntN(len(p.Valves))
	switch r.IntN(12) {
	case 0:
		content, gas := r.IntN(p.Tanks[tank].Room+1), amount(r, 0)
		m.content[tank], m.gas[tank] = content, gas
		return s.Put(tank, content, gas), api.OK
	case 1:
		m.rate[tank] = pick(r, 0, r.IntN(5), amount(r, 0))
		return s.Leak(tank, m.rate[tank]), api.OK
	case 2:
		m.stuck[valve] = r.IntN(3) == 0
		return s.Stick(valve, m.stuck[valve]), api.OK
	case 3, 4, 5, 6:
		o := api.Order{Valve: valve, Open: r.IntN(3) > 0}
		if !m.order(o) {
			want = api.ErrState
		}
		return s.Order(o), want
	case 7:
		return s.Put(tank, p.Tanks[tank].Room+1, 0), api.ErrRange
	}
	m.tick()
	return s.Tick(), api.OK
}

// Random plants, called at random: what can be seen is what the model says.
func TestAsTheModel(t *testing.T) {
	r := random()
	errors := map[api.Errno]int{}
	vents, losses, flows := 0, 0, 0
	for range 2000 {
		p := aPlant(r, 5)
		s, m := made(t, p), newModel(p)
		fill(r, p, func(tank, content, gas int) {
			s.Put(tank, content, gas)
			m.content[tank], m.gas[tank] = content, gas
		})
		for range 60 {
			got, want := do(r, p, s, m)
			errors[got]++
			l, wanted := seen(t, s, p), m.seen()
			if got != want || !slices.Equal(l, wanted) {
				t.Fatalf("plant %v: error %d, seen %v; want error %d, %v", p, got, l, want, wanted)
			}
			set := someLits(r, p, 1+r.IntN(3))
			if holds := !slices.ContainsFunc(set, func(l api.Lit) bool { return !m.holds(l) }); s.Holds(set) != holds {
				t.Fatalf("%v holds: %t, want %t", set, !holds, holds)
			}
		}
		vents += number(slices.Max(m.vented) > 0)
		losses += number(slices.Max(m.lost) > 0)
		flows += number(len(m.moved) > 0 && slices.Max(m.moved) > 0)
	}
	if errors[api.ErrState] < 3000 || vents < 500 || losses < 500 || flows < 500 {
		t.Errorf("errors %v, %d vented, %d lost, %d carried", errors, vents, losses, flows)
	}
}

// No argument is kept or changed, and no result shares memory with a system.
func TestMemory(t *testing.T) {
	r := random()
	for range 200 {
		p := aPlant(r, 5)
		q := copyOf(p)
		s, m := made(t, q), newModel(p)
		scribble(&q)
		for range 30 {
			do(r, p, s, m)
			for _, l := range [][]int{s.Carried(), s.Lost(), s.Vented()} {
				for i := range l {
					l[i] = -1
				}
			}
		}
		if l, want := seen(t, s, p), m.seen(); !slices.Equal(l, want) {
			t.Fatalf("plant %v: seen %v, want %v", p, l, want)
		}
	}
}

// scribble writes over all of a plant's memory.
func scribble(p *api.Plant) {
	for i := range p.Tanks {
		p.Tanks[i] = api.Tank{Name: "x", Room: -1, Least: -1, Limit: -1}
	}
	for i := range p.Valves {
		p.Valves[i] = api.Valve{Name: "x", Travel: 1 << 20}
	}
	for i, l := range p.Lines {
		for k := range l.Valves {
			l.Valves[k] = -7
		}
		p.Lines[i] = api.Line{From: -7, To: -7}
	}
	for i, l := range p.Never {
		for k := range l {
			l[k] = api.Lit{Valve: -7}
		}
		p.Never[i] = nil
	}
}
