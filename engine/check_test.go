package engine_test

// P7.1 (what is valid), and what the other functions do with what is not: P7.2 (New), P7.5 (Run), P7.6 (Path).

import (
	"math"
	"slices"
	"strings"
	"testing"

	"ullage/api"
	"ullage/engine"
)

// checkPlant holds all functions that look at a plant against whether it is valid.
func checkPlant(t *testing.T, what string, p api.Plant, want bool) {
	t.Helper()
	e := api.ErrArg
	if want {
		e = api.OK
	}
	if engine.CheckPlant(p) != want || engine.CheckSequence(p, api.Sequence{}) != want {
		t.Errorf("%s: is valid: %t", what, !want)
	}
	if s, f := engine.New(p); (s != nil) != want || f != e {
		t.Errorf("%s: New: %v, error %d", what, s, f)
	}
	if l, f := engine.Path(p, []api.Lit{{}}); (f == api.ErrArg) == want || f != api.OK && l != nil {
		t.Errorf("%s: Path: %v, error %d", what, l, f)
	}
}

// manyTanks and manyValves return as many, with different names.
func manyTanks(n int) []api.Tank {
	var l []api.Tank
	for i := range n {
		l = append(l, api.Tank{Name: string(rune('A' + i)), Room: 100, Least: 1})
	}
	return l
}

func manyValves(n int) []api.Valve {
	var l []api.Valve
	for i := range n {
		l = append(l, api.Valve{Name: string(rune('A' + i)), Travel: 1})
	}
	return l
}

func TestPlantNumbers(t *testing.T) {
	for _, c := range []struct {
		what      string
		low, high int
		set       func(p *api.Plant, n int)
	}{
		{"room", 1, api.MaxMass, func(p *api.Plant, n int) { p.Tanks[1].Room = n }},
		{"least", 1, api.MaxMass, func(p *api.Plant, n int) { p.Tanks[1].Least = n }},
		{"limit", 0, api.MaxMass, func(p *api.Plant, n int) { p.Tanks[1].Limit = n }},
		{"travel", 1, 8, func(p *api.Plant, n int) { p.Valves[1].Travel = n }},
		{"flow", 1, api.MaxMass, func(p *api.Plant, n int) { p.Lines[1].Flow = n }},
		{"from", -1, 0, func(p *api.Plant, n int) { p.Lines[1].From, p.Lines[1].To = n, 1 }},
		{"to", -1, 0, func(p *api.Plant, n int) { p.Lines[1].From, p.Lines[1].To = 1, n }},
		{"to from outside", 0, 1, func(p *api.Plant, n int) { p.Lines[1].From, p.Lines[1].To = -1, n }},
		{"valve of a line", 0, 1, func(p *api.Plant, n int) { p.Lines[0].Valves[1] = n }},
		{"valve of a literal", 0, 1, func(p *api.Plant, n int) { p.Never[1][1].Valve = n }},
	} {
		for n, want := range map[int]bool{c.low: true, c.high: true, c.low - 1: false, c.high + 1: false, math.MinInt: false, math.MaxInt: false} {
			p := example([]api.Lit{on(0)}, []api.Lit{on(1), on(0)})
			c.set(&p, n)
			checkPlant(t, c.what, p, want)
		}
	}
}

func TestPlantLists(t *testing.T) {
	for _, c := range []struct {
		what        string
		least, most int
		set         func(p *api.Plant, n int)
	}{
		{"tanks", 1, 16, func(p *api.Plant, n int) { p.Tanks, p.Lines = manyTanks(n), nil }},
		{"valves", 1, 12, func(p *api.Plant, n int) { p.Valves, p.Lines = manyValves(n), nil }},
		{"lines", 0, 32, func(p *api.Plant, n int) { p.Lines = slices.Repeat(p.Lines[:1], n) }},
		{"valves of a line", 1, 4, func(p *api.Plant, n int) { p.Lines[1].Valves = make([]int, n) }},
		{"sets", 0, 32, func(p *api.Plant, n int) { p.Never = slices.Repeat([][]api.Lit{{on(1)}}, n) }},
		{"literals", 1, 4, func(p *api.Plant, n int) { p.Never = [][]api.Lit{{on(1)}, slices.Repeat([]api.Lit{on(0)}, n)} }},
		{"name of a tank", 1, 32, func(p *api.Plant, n int) { p.Tanks[1].Name = strings.Repeat("x", n) }},
		{"name of a valve", 1, 32, func(p *api.Plant, n int) { p.Valves[1].Name = strings.Repeat("x", n) }},
		{"runes of a name", 1, 16, func(p *api.Plant, n int) { p.Tanks[1].Name = strings.Repeat("ü", n) }},
	} {
		for n, want := range map[int]bool{0: c.least == 0, c.least: true, c.most: true, c.most + 1: false, 3 * c.most: false} {
			p := example()
			c.set(&p, n)
			checkPlant(t, c.what, p, want)
		}
	}
}

func TestPlantNamesAndEnds(t *testing.T) {
	for _, c := range []struct {
		what string
		set  func(p *api.Plant)
		want bool
	}{
		{"as it is", func(*api.Plant) {}, true},
		{"same tanks", func(p *api.Plant) { p.Tanks[1].Name = "a" }, false},
		{"same valves", func(p *api.Plant) { p.Valves[1].Name = "v" }, false},
		{"a tank as a valve", func(p *api.Plant) { p.Tanks[1].Name = "v" }, true},
		{"in capitals", func(p *api.Plant) { p.Tanks[1].Name = "A" }, true},
		{"bytes", func(p *api.Plant) { p.Tanks[1].Name = "\xff\x00" }, true},
		{"from a tank to itself", func(p *api.Plant) { p.Lines[0].To = 0 }, false},
		{"from outside to outside", func(p *api.Plant) { p.Lines[1].To = -1 }, false},
		{"a valve twice", func(p *api.Plant) { p.Lines[0].Valves = []int{1, 1} }, true},
		{"least above room", func(p *api.Plant) { p.Tanks[0].Room = 1 }, true},
		{"nothing", func(p *api.Plant) { *p = api.Plant{} }, false},
	} {
		p := example()
		c.set(&p)
		checkPlant(t, c.what, p, c.want)
	}
}

// What may hold at first: literals of where the valves are, v closed and w open.
func TestPlantNever(t *testing.T) {
	for _, c := range []struct {
		never [][]api.Lit
		want  bool
	}{
		{[][]api.Lit{{off(0)}}, false},
		{[][]api.Lit{{on(1)}}, false},
		{[][]api.Lit{{on(0)}}, true},
		{[][]api.Lit{{off(1)}}, true},
		{[][]api.Lit{{off(0), on(1)}}, false},
		{[][]api.Lit{{on(1), off(0), on(1), on(1)}}, false},
		{[][]api.Lit{{on(1), off(0), on(1), on(0)}}, true},
		{[][]api.Lit{{off(0), off(1)}}, true},
		{[][]api.Lit{{on(0), on(1)}}, true},
		{[][]api.Lit{{on(0), off(0)}}, true},
		{[][]api.Lit{{on(0)}, {off(1)}, {on(1), off(0)}}, false},
	} {
		p := example(c.never...)
		p.Valves[1].Open = true
		checkPlant(t, "a set of Never", p, c.want)
	}
}

// checkSequence holds CheckSequence and Run against whether a sequence is valid for the example's plant.
func checkSequence(t *testing.T, what string, q api.Sequence, want bool) {
	t.Helper()
	if engine.CheckSequence(example(), q) != want {
		t.Errorf("%s: is valid: %t", what, !want)
	}
	s := made(t, example())
	before := seen(t, s, example())
	x, e := s.Run(q, nil)
	if (e == api.OK) != want || !want && (e != api.ErrArg || x != api.Ended{}) {
		t.Errorf("%s: Run: %v, error %d", what, x, e)
	}
	if !want && !slices.Equal(seen(t, s, example()), before) {
		t.Errorf("%s: has changed the system", what)
	}
}

// twoSteps returns a sequence with something of each kind.
func twoSteps() api.Sequence {
	return api.Sequence{
		Steps:    []api.Step{{Orders: []api.Order{open(0)}}, {At: 5, Orders: []api.Order{open(0), open(1)}, Needs: []api.Need{{High: 9}, {Kind: 2, Of: 1, High: 9}}}},
		Redlines: []api.Redline{{Ticks: 1}, {Need: api.Need{Kind: 3, Of: 1}, Ticks: 2}},
		Abort:    []api.Order{shut(0), shut(1)},
	}
}

func TestSequenceNumbers(t *testing.T) {
	for _, c := range []struct {
		what      string
		low, high int
		set       func(q *api.Sequence, n int)
	}{
		{"at", 5, 10000, func(q *api.Sequence, n int) { q.Steps = append(q.Steps, api.Step{At: n}) }},
		{"at of the first", 0, 5, func(q *api.Sequence, n int) { q.Steps[0].At = n }},
		{"valve of an order", 0, 1, func(q *api.Sequence, n int) { q.Steps[1].Orders[1].Valve = n }},
		{"valve of the abort", 0, 1, func(q *api.Sequence, n int) { q.Abort[1].Valve = n }},
		{"kind", 0, 3, func(q *api.Sequence, n int) { q.Steps[1].Needs[1].Kind = n }},
		{"kind of a redline", 0, 3, func(q *api.Sequence, n int) { q.Redlines[1].Need.Kind = n }},
		{"ticks", 0, 10000, func(q *api.Sequence, n int) { q.Redlines[1].Ticks = n }},
	} {
		for n, want := range map[int]bool{c.low: true, c.high: true, c.low - 1: false, c.high + 1: false, math.MinInt: false, math.MaxInt: false} {
			q := twoSteps()
			c.set(&q, n)
			checkSequence(t, c.what, q, want)
		}
	}
}

func TestSequenceLists(t *testing.T) {
	need := api.Need{High: 100}
	for _, c := range []struct {
		what string
		most int
		set  func(q *api.Sequence, n int)
	}{
		{"steps", 64, func(q *api.Sequence, n int) { q.Steps = make([]api.Step, n) }},
		{"orders", 16, func(q *api.Sequence, n int) { q.Steps[1].Orders = slices.Repeat([]api.Order{open(1)}, n) }},
		{"needs", 16, func(q *api.Sequence, n int) { q.Steps[1].Needs = slices.Repeat([]api.Need{need}, n) }},
		{"redlines", 16, func(q *api.Sequence, n int) { q.Redlines = slices.Repeat([]api.Redline{{Need: need}}, n) }},
		{"abort", 16, func(q *api.Sequence, n int) { q.Abort = make([]api.Order, n) }},
	} {
		for n, want := range map[int]bool{0: true, 1: true, c.most: true, c.most + 1: false, 4 * c.most: false} {
			q := twoSteps()
			c.set(&q, n)
			checkSequence(t, c.what, q, want)
		}
	}
	checkSequence(t, "nothing", api.Sequence{}, true)
	checkSequence(t, "low above high", api.Sequence{Steps: []api.Step{{Needs: []api.Need{{Low: math.MaxInt, High: math.MinInt}}}}}, true)
	if q := twoSteps(); engine.CheckSequence(example([]api.Lit{off(0)}), q) || engine.CheckSequence(api.Plant{}, q) {
		t.Error("a sequence for a plant that is not valid")
	}
}

// needsOf returns all needs of which a plant has the thing, and some that it has not.
func needsOf(tanks, lines, valves int) (good, bad []api.Need) {
	for kind, many := range []int{tanks, tanks, lines, valves} {
		for i := range many {
			good = append(good, api.Need{Kind: kind, Of: i})
		}
		for _, of := range []int{-1, many, many + 1, math.MinInt, math.MaxInt} {
			bad = append(bad, api.Need{Kind: kind, Of: of})
		}
	}
	for _, kind := range []int{-1, 4, 5, math.MinInt, math.MaxInt} {
		bad = append(bad, api.Need{Kind: kind})
	}
	return good, bad
}

// A plant whose tanks, lines and valves are of different numbers, so that each index is held against the right one.
func TestNeeds(t *testing.T) {
	for _, many := range [][3]int{{1, 0, 2}, {3, 1, 2}, {2, 3, 1}} {
		p := api.Plant{Tanks: manyTanks(many[0]), Valves: manyValves(many[2])}
		for range many[1] {
			p.Lines = append(p.Lines, api.Line{To: -1, Flow: 1, Valves: []int{0}})
		}
		s := made(t, p)
		good, bad := needsOf(many[0], many[1], many[2])
		for i, n := range slices.Concat(good, bad) {
			want, e := i < len(good), api.OK
			if !want {
				e = api.ErrArg
			}
			step := api.Sequence{Steps: []api.Step{{}, {Needs: []api.Need{n}}}}
			line := api.Sequence{Redlines: []api.Redline{{Need: n}}}
			if engine.CheckSequence(p, step) != want || engine.CheckSequence(p, line) != want {
				t.Errorf("need %v of %v: is valid: %t", n, many, !want)
			}
			n.Low, n.High = 9, -9
			got, f := s.Number(n)
			is(t, "Number", got, f, 0, e)
		}
	}
}

func TestDisorders(t *testing.T) {
	p := api.Plant{Tanks: manyTanks(3), Valves: manyValves(2)}
	for _, c := range []struct {
		d    api.Disorder
		want bool
	}{
		{api.Disorder{}, true},
		{api.Disorder{At: 10000, Of: 1, Rate: api.MaxMass}, true},
		{api.Disorder{Kind: 1, Of: 2, Rate: api.MaxMass}, true},
		{api.Disorder{At: -1}, false},
		{api.Disorder{At: 10001}, false},
		{api.Disorder{At: math.MinInt}, false},
		{api.Disorder{Kind: 2}, false},
		{api.Disorder{Kind: -1}, false},
		{api.Disorder{Of: 2}, false},
		{api.Disorder{Of: -1}, false},
		{api.Disorder{Kind: 1, Of: 3}, false},
		{api.Disorder{Kind: 1, Of: -1}, false},
		{api.Disorder{Kind: 1, Rate: -1}, false},
		{api.Disorder{Kind: 1, Rate: api.MaxMass + 1}, false},
		{api.Disorder{Rate: -1}, false},
		{api.Disorder{Rate: api.MaxMass + 1}, false},
	} {
		for _, l := range [][]api.Disorder{{c.d}, {{}, c.d, {}}} {
			s := made(t, p)
			s.Put(0, 9, 0)
			before := seen(t, s, p)
			x, e := s.Run(api.Sequence{}, l)
			if (e == api.OK) != c.want || (e == api.ErrArg) == c.want || x != (api.Ended{}) {
				t.Errorf("Run with %v: %v, error %d", c.d, x, e)
			}
			if !c.want && !slices.Equal(seen(t, s, p), before) {
				t.Errorf("Run with %v has changed the system", c.d)
			}
		}
	}
	for n, want := range map[int]api.Errno{0: api.OK, 64: api.OK, 65: api.ErrArg} {
		x, e := made(t, p).Run(api.Sequence{}, make([]api.Disorder, n))
		is(t, "Run with many", x, e, api.Ended{}, want)
	}
}
