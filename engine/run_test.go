package engine_test

// P7.5 (Run) and P7.11 (redlines and aborts).

import (
	"math/rand/v2"
	"slices"
	"testing"

	"ullage/api"
	"ullage/engine"
)

// runOf runs a sequence in the example's plant, with 80 kg in a.
func runOf(t *testing.T, never [][]api.Lit, q api.Sequence, wrong ...api.Disorder) (*engine.System, api.Ended) {
	t.Helper()
	s := made(t, example(never...))
	s.Put(0, 80, 0)
	x, e := s.Run(q, wrong)
	if e != api.OK {
		t.Errorf("Run: error %d", e)
	}
	return s, x
}

// need returns a need with its range.
func need(kind, of, low, high int) api.Need {
	return api.Need{Kind: kind, Of: of, Low: low, High: high}
}

func TestRunByHand(t *testing.T) {
	both := []api.Order{open(0), open(1)}
	first := api.Step{Orders: both}
	interlock := [][]api.Lit{{on(0), on(1)}}
	moved := need(2, 0, 60, 1000)
	for i, c := range []struct {
		never [][]api.Lit
		q     api.Sequence
		wrong []api.Disorder
		want  api.Ended
	}{
		{nil, api.Sequence{}, nil, api.Ended{}},
		{nil, api.Sequence{Abort: both}, nil, api.Ended{}},
		{nil, api.Sequence{Steps: []api.Step{{At: 7}}}, nil, api.Ended{At: 7}},
		{nil, api.Sequence{Steps: []api.Step{{At: 10000}}}, nil, api.Ended{At: 10000}},
		{nil, api.Sequence{Steps: []api.Step{first, {At: 3, Needs: []api.Need{moved}}}}, nil, api.Ended{At: 3}},
		{nil, api.Sequence{Steps: []api.Step{first, {At: 2, Needs: []api.Need{need(2, 0, 60, 60)}}}}, nil, api.Ended{At: 2}},
		{nil, api.Sequence{Steps: []api.Step{first, {At: 1, Needs: []api.Need{moved}}, {At: 9}}}, nil, api.Ended{Why: 2, At: 1, Index: 1}},
		{nil, api.Sequence{Steps: []api.Step{first, {At: 3, Needs: []api.Need{moved}}}}, []api.Disorder{{At: 1}}, api.Ended{Why: 2, At: 3, Index: 1}},
		{nil, api.Sequence{Steps: []api.Step{first, {At: 3, Needs: []api.Need{moved}}}}, []api.Disorder{{At: 2}}, api.Ended{At: 3}},
		{nil, api.Sequence{Steps: []api.Step{{Needs: []api.Need{need(0, 0, 80, 80)}}}}, []api.Disorder{{At: 0, Kind: 1, Rate: 1}}, api.Ended{Why: 2}},
		{nil, api.Sequence{Steps: []api.Step{{Needs: []api.Need{need(0, 0, 80, 80)}}}}, []api.Disorder{{At: 1, Kind: 1, Rate: 1}}, api.Ended{}},
		{nil, api.Sequence{Steps: []api.Step{{At: 3, Needs: []api.Need{need(0, 0, 80-9, 80-9)}}}}, []api.Disorder{{At: 1, Kind: 1, Rate: 7}, {At: 1, Kind: 1, Rate: 3}}, api.Ended{At: 3}},
		{nil, api.Sequence{Steps: []api.Step{{At: 3, Needs: []api.Need{need(0, 0, 80-7-6, 80-7-6)}}}}, []api.Disorder{{At: 2, Kind: 1, Rate: 3}, {At: 1, Kind: 1, Rate: 7}}, api.Ended{At: 3}},

		// The first refused order ends it, ahead of the tick; what comes behind it is not given.
		{interlock, api.Sequence{Steps: []api.Step{first}}, nil, api.Ended{Why: 1}},
		{interlock, api.Sequence{Steps: []api.Step{{At: 2}, {At: 2, Orders: both}, {At: 2, Orders: both}, {At: 3}}}, nil, api.Ended{Why: 1, At: 2, Index: 1}},
		{interlock, api.Sequence{Steps: []api.Step{{Orders: both, Needs: []api.Need{need(3, 0, 5, 5)}}}, Redlines: []api.Redline{{Need: need(3, 0, 5, 5)}}}, nil, api.Ended{Why: 1}},
		{interlock, api.Sequence{Steps: []api.Step{{Orders: both}}, Abort: []api.Order{open(1), open(0), open(1), shut(0)}}, nil, api.Ended{Why: 1, Refused: 2}},
		{interlock, api.Sequence{Steps: []api.Step{{Orders: both}}, Abort: []api.Order{shut(0), open(1), open(0), open(0), open(0)}}, nil, api.Ended{Why: 1, Refused: 3}},

		// Redlines come ahead of needs; the first one of them decides, not the worst one.
		{nil, api.Sequence{Steps: []api.Step{{Needs: []api.Need{need(3, 0, 1, 1)}}}, Redlines: []api.Redline{{Need: need(0, 0, 80, 80)}, {Need: need(3, 0, 1, 2)}, {Need: need(3, 1, 1, 2)}}}, nil, api.Ended{Why: 3, Index: 1}},
		{nil, api.Sequence{Steps: []api.Step{{At: 9}}, Redlines: []api.Redline{{Need: need(3, 0, 1, 2), Ticks: 3}, {Need: need(3, 0, 1, 2), Ticks: 2}}}, nil, api.Ended{Why: 3, At: 2, Index: 1}},
		{nil, api.Sequence{Steps: []api.Step{{At: 9}}, Redlines: []api.Redline{{Need: need(3, 0, 1, 2), Ticks: 10}, {Need: need(0, 0, 9, 8), Ticks: 10}}}, nil, api.Ended{At: 9}},
		{nil, api.Sequence{Steps: []api.Step{{At: 9}}, Redlines: []api.Redline{{Need: need(0, 0, 9, 8), Ticks: 9}}}, nil, api.Ended{Why: 3, At: 9}},
		{nil, api.Sequence{Steps: []api.Step{first, {At: 8}}, Redlines: []api.Redline{{Need: need(1, 0, 0, 100), Ticks: 1}}}, nil, api.Ended{Why: 3, At: 1}},

		// A count begins anew where the need is kept: w is open at the ticks 0, 3 and 4.
		{nil, api.Sequence{Steps: []api.Step{{Orders: []api.Order{open(1)}}, {At: 1, Orders: []api.Order{shut(1)}}, {At: 3, Orders: []api.Order{open(1)}}, {At: 5, Orders: []api.Order{shut(1)}}, {At: 6}}, Redlines: []api.Redline{{Need: need(3, 1, 1, 1), Ticks: 2}}}, nil, api.Ended{At: 6}},
		{nil, api.Sequence{Steps: []api.Step{{Orders: []api.Order{open(1)}}, {At: 1, Orders: []api.Order{shut(1)}}, {At: 3, Orders: []api.Order{open(1)}}, {At: 5, Orders: []api.Order{shut(1)}}, {At: 7}}, Redlines: []api.Redline{{Need: need(3, 1, 1, 1), Ticks: 2}}}, nil, api.Ended{Why: 3, At: 7}},

		// Of the needs of a tick the first one that is not kept names its step.
		{nil, api.Sequence{Steps: []api.Step{{At: 1}, {At: 1, Needs: []api.Need{need(0, 0, 80, 80), need(0, 1, 1, 1)}}, {At: 1, Needs: []api.Need{need(0, 1, 1, 1)}}}}, nil, api.Ended{Why: 2, At: 1, Index: 1}},
		{nil, api.Sequence{Steps: []api.Step{{Needs: []api.Need{need(0, 1, 1, 1)}}}, Abort: both}, nil, api.Ended{Why: 2}},
	} {
		if _, x := runOf(t, c.never, c.q, c.wrong...); x != c.want {
			t.Errorf("case %d: %v, want %v", i, x, c.want)
		}
	}
}

// A run goes on from the state of its system, and leaves it as it ended: behind a refused order there is no tick, behind an abort none either.
func TestRunLeaves(t *testing.T) {
	s, x := runOf(t, [][]api.Lit{{on(0), on(1)}}, api.Sequence{Steps: []api.Step{{Orders: []api.Order{open(0)}}, {At: 1, Orders: []api.Order{open(0), open(1), shut(0)}}}, Abort: []api.Order{open(1)}})
	if p, want := seen(t, s, example()), []int{80, 0, 0, 0, 0, 0, 1, 0, 1, 0, 0, 0, 0, 0, 0, 0}; x != (api.Ended{Why: 1, At: 1, Index: 1, Refused: 1}) || !slices.Equal(p, want) {
		t.Errorf("%v; %v, want %v", x, p, want)
	}
	x, e := s.Run(api.Sequence{Steps: []api.Step{{At: 1, Needs: []api.Need{need(3, 0, 2, 2)}}}}, []api.Disorder{{At: 1, Of: 0}, {At: 2, Of: 1}})
	is(t, "Run", x, e, api.Ended{At: 1}, api.OK)
	s.Order(shut(0))
	s.Tick()
	if n := what(t, s, 3, 0); n != 2 {
		t.Errorf("a valve that sticks is at %d", n)
	}
}

// Random sequences in random plants: how they end, and what they leave, is what the model says; what they are given is only read.
func TestRunsAsTheModel(t *testing.T) {
	r := random()
	whys, refused := map[int]int{}, 0
	for range 6000 {
		p := aPlant(r, 4)
		s, m := made(t, p), newModel(p)
		fill(r, p, func(tank, content, gas int) {
			s.Put(tank, content, gas)
			m.content[tank], m.gas[tank] = content, gas
		})
		for range 3 {
			q, wrong := aSequence(r, p), someDisorders(r, p)
			kept, keptWrong := copyOfSequence(q), slices.Clone(wrong)
			want := m.run(q, wrong)
			got, e := s.Run(q, wrong)
			whys[got.Why]++
			refused += got.Refused
			if l, w := seen(t, s, p), m.seen(); got != want || e != api.OK || !slices.Equal(l, w) {
				t.Fatalf("plant %v, sequence %v, %v: %v, error %d, %v; want %v, %v", p, q, wrong, got, e, l, want, w)
			}
			if !sameSequences(q, kept) || !slices.Equal(wrong, keptWrong) {
				t.Fatalf("an argument has changed: %v, was %v", q, kept)
			}
		}
	}
	for why := range 4 {
		if whys[why] < 800 {
			t.Errorf("%d runs ended with %d", whys[why], why)
		}
	}
	if refused < 800 {
		t.Errorf("%d orders of aborts were refused", refused)
	}
}

func copyOfSequence(q api.Sequence) api.Sequence {
	c := api.Sequence{Redlines: slices.Clone(q.Redlines), Abort: slices.Clone(q.Abort)}
	for _, s := range q.Steps {
		c.Steps = append(c.Steps, api.Step{At: s.At, Orders: slices.Clone(s.Orders), Needs: slices.Clone(s.Needs)})
	}
	return c
}

func sameSequences(a, b api.Sequence) bool {
	return slices.Equal(a.Redlines, b.Redlines) && slices.Equal(a.Abort, b.Abort) && slices.EqualFunc(a.Steps, b.Steps, func(x, y api.Step) bool {
		return x.At == y.At && slices.Equal(x.Orders, y.Orders) && slices.Equal(x.Needs, y.Needs)
	})
}

// P7.11: a run is held against the same ticks, one by one, with no redlines: it ends at the latest where a need was not kept at more ticks than allowed.
func TestRedlinesEnd(t *testing.T) {
	r := random()
	ends := 0
	for range 2000 {
		p := aPlant(r, 4)
		q := aSequence(r, p)
		q.Redlines = []api.Redline{{Need: aNeed(r, p), Ticks: r.IntN(4)}}
		for i := range q.Steps {
			q.Steps[i].Needs = nil
		}
		s, ticks := made(t, p), made(t, p)
		fill(r, p, func(tank, content, gas int) {
			s.Put(tank, content, gas)
			ticks.Put(tank, content, gas)
		})
		x, _ := s.Run(q, nil)
		ends += number(x.Why == 3)
		hurt := 0
		for n := range x.At + number(x.Why != 1) {
			for _, step := range q.Steps {
				for _, o := range step.Orders {
					if step.At == n {
						ticks.Order(o)
					}
				}
			}
			ticks.Tick()
			v, _ := ticks.Number(q.Redlines[0].Need)
			hurt = (hurt + 1) * number(v < q.Redlines[0].Need.Low || v > q.Redlines[0].Need.High)
			if (hurt > q.Redlines[0].Ticks) != (x.Why == 3 && x.At == n) {
				t.Fatalf("%v: hurt at %d ticks at the tick %d, ended %v", q, hurt, n, x)
			}
		}
	}
	if ends < 300 {
		t.Errorf("%d runs ended at a redline", ends)
	}
}

// P7.11: behind an abort of which nothing was refused, and ticks, the valves that do not stick are where its last orders say.
func TestAbortsArrive(t *testing.T) {
	r := random()
	aborts := 0
	for range 4000 {
		p := aPlant(r, 4)
		s := made(t, p)
		q, wrong := aSequence(r, p), someDisorders(r, p)
		x, _ := s.Run(q, wrong)
		if x.Why == 0 || x.Refused > 0 {
			continue
		}
		for range api.MaxTravel {
			s.Tick()
		}
		for i, v := range p.Valves {
			open, is := lastOrder(q.Abort, i)
			stuck := slices.ContainsFunc(wrong, func(d api.Disorder) bool { return d.Kind == 0 && d.Of == i && d.At <= x.At })
			if is && !stuck {
				aborts++
				if n := what(t, s, 3, i); n != number(open)*v.Travel {
					t.Fatalf("%v: valve %d of %v is at %d", q, i, p, n)
				}
			}
		}
	}
	if aborts < 1000 {
		t.Errorf("%d valves of aborts", aborts)
	}
}

// lastOrder returns where the last order for a valve says, if there is one.
func lastOrder(l []api.Order, valve int) (open, is bool) {
	for _, o := range l {
		if o.Valve == valve {
			open, is = o.Open, true
		}
	}
	return open, is
}

// The longest run of the largest sequence ends.
func TestLongestRun(t *testing.T) {
	r := rand.New(rand.NewPCG(1, 2))
	p := api.Plant{Tanks: manyTanks(16), Valves: manyValves(12)}
	for range 32 {
		p.Lines = append(p.Lines, api.Line{From: r.IntN(8), To: 8 + r.IntN(8), Flow: 1 + r.IntN(9), Gas: r.IntN(2) == 0, Valves: []int{r.IntN(12)}})
	}
	var q api.Sequence
	for i := range 64 {
		q.Steps = append(q.Steps, api.Step{At: 10000 - 63 + i, Orders: slices.Repeat([]api.Order{open(i % 12)}, 16), Needs: slices.Repeat([]api.Need{need(0, 0, 0, 100)}, 16)})
	}
	q.Redlines = slices.Repeat([]api.Redline{{Need: need(3, 11, 1, 1), Ticks: 9948}}, 16)
	x, e := made(t, p).Run(q, nil)
	is(t, "Run", x, e, api.Ended{Why: 0, At: 10000}, api.OK)
	q.Redlines[15].Ticks = 9947
	x, e = made(t, p).Run(q, nil)
	is(t, "Run", x, e, api.Ended{Why: 3, At: 9947, Index: 15}, api.OK)
}
