package ascent_test

// P4.3 (search).

import (
	"math"
	"math/rand/v2"
	"slices"
	"testing"

	"ullage/api"
	"ullage/ascent"
)

// never returns a task that no climb reaches, though no cell surely fails: its arcs have no directions.
func never() api.Ascent {
	x := twisted()
	x.Parts[0].Level = at(api.One / 2)
	return x
}

// levels returns a task of one part at some levels, which costs just twice the level.
func levels(low, high api.Num) api.Ascent {
	x := rising()
	x.Parts[0].Arc.Flow, x.Parts[0].Arc.Time = at(api.One), 2*api.One
	x.Parts[0].Level = raw(low, high)
	return x
}

// knob returns a climb of one part.
func knob(pitch, level api.Num) []api.Knob {
	return []api.Knob{{Pitch: at(pitch), Level: at(level)}}
}

func TestSearch(t *testing.T) {
	one := api.One
	point := levels(one/2, one/2)
	point.Gap = api.MostNum
	failing := rising()
	failing.Height = ints(-3, -2)
	free := rising()
	free.Parts[0].Arc.Flow = at(0)
	gap := func(n api.Num) api.Ascent {
		x := rising()
		x.Gap = n
		return x
	}
	for _, c := range []struct {
		what   string
		x      api.Ascent
		budget int
		want   api.Found
	}{
		{"no budget", rising(), 0, api.Found{Bound: one, Left: 1, Why: 2}},
		{"no budget, a gap of all", gap(api.MostNum), 0, api.Found{Bound: one, Left: 1, Why: 2}},
		{"no budget, where nothing reaches", failing, 0, api.Found{Bound: one, Left: 1, Why: 2}},
		{"one cell", rising(), 1, api.Found{Best: knob(one, one*3/4), Cost: at(one * 3 / 2), Bound: one, Cells: 1, Left: 2, Why: 2}},
		{"two cells", rising(), 2, api.Found{Best: knob(one, one*5/8), Cost: at(one * 5 / 4), Bound: one, Cells: 2, Left: 3, Why: 2}},
		{"four cells", rising(), 4, api.Found{Best: knob(one, one*17/32), Cost: at(one * 17 / 16), Bound: one, Cells: 4, Left: 5, Why: 2}},
		{"a gap that one climb has", gap(one / 2), 256, api.Found{Best: knob(one, one*3/4), Cost: at(one * 3 / 2), Bound: one, Cells: 1, Left: 2, Why: 0}},
		{"a gap that one climb has, at the end of the budget", gap(one / 2), 1, api.Found{Best: knob(one, one*3/4), Cost: at(one * 3 / 2), Bound: one, Cells: 1, Left: 2, Why: 0}},
		{"a gap that one climb has not", gap(one/2 - 1), 256, api.Found{Best: knob(one, one*5/8), Cost: at(one * 5 / 4), Bound: one, Cells: 2, Left: 3, Why: 0}},
		{"a gap that one climb has not, at the end of the budget", gap(one/2 - 1), 1, api.Found{Best: knob(one, one*3/4), Cost: at(one * 3 / 2), Bound: one, Cells: 1, Left: 2, Why: 2}},
		{"one climb", point, 256, api.Found{Best: knob(one, one/2), Cost: at(one), Bound: one, Cells: 1, Left: 1, Why: 1}},
		{"one climb, at the end of the budget", point, 1, api.Found{Best: knob(one, one/2), Cost: at(one), Bound: one, Cells: 1, Left: 1, Why: 1}},
		{"nothing reaches", failing, 256, api.Found{Bound: api.MostNum, Cells: 1, Why: 1}},
		{"nothing reaches, at the end of the budget", failing, 1, api.Found{Bound: api.MostNum, Cells: 1, Why: 1}},
		{"nothing reaches, for sure of no cell", never(), 256, api.Found{Bound: one, Cells: 1, Left: 1, Why: 1}},
		{"what costs nothing", free, 256, api.Found{Best: knob(one, one*3/4), Cost: at(0), Bound: 0, Cells: 1, Left: 2, Why: 0}},
		// Of two levels next to each other the lower one is tried alone; of three the middle one, then the halves are done.
		{"two levels", levels(one-1, one), 256, api.Found{Best: knob(one, one-1), Cost: at(2*one - 2), Bound: 2*one - 2, Cells: 1, Left: 1, Why: 1}},
		{"three levels", levels(one-2, one), 256, api.Found{Best: knob(one, one-2), Cost: at(2*one - 4), Bound: 2*one - 4, Cells: 2, Left: 2, Why: 0}},
		{"three levels, one cell", levels(one-2, one), 1, api.Found{Best: knob(one, one-1), Cost: at(2*one - 2), Bound: 2*one - 4, Cells: 1, Left: 2, Why: 2}},
	} {
		f, e := ascent.Search(c.x, c.budget)
		hasFound(t, "Search, "+c.what, f, e, c.want, api.OK)
		want, _ := exactSearch(c.x, c.budget)
		hasFound(t, "Search in another way, "+c.what, f, e, want, api.OK)
	}
}

// TestSearchGoesToTheEnd has ranges of few numbers, of which all cells are done, or fail, before the budget is spent.
func TestSearchGoesToTheEnd(t *testing.T) {
	few := func(i int, height api.Span) api.Ascent {
		x := rising()
		x.Parts[0].Pitch, x.Parts[0].Level = raw(api.One-5, api.One), raw(api.One-api.Num(i), api.One)
		x.Parts[0].Arc.Flow = at(api.One / 5)
		x.Height = height
		return x
	}
	stop, _ := allJudged(few(6, anything()), everything(few(6, anything())))
	end := stop[0].value
	for i := range 7 {
		for _, height := range []api.Span{anything(), end, raw(end.Lo+1, end.Hi), raw(end.Lo, end.Hi-1), raw(end.Lo+40, end.Hi), raw(end.Hi+1, end.Hi+1)} {
			x := few(i, height)
			want, done := exactSearch(x, api.MaxCells)
			f, e := ascent.Search(x, api.MaxCells)
			hasFound(t, "Search of few numbers", f, e, want, api.OK)
			if f.Left != done && f.Why == 1 {
				t.Errorf("%d cells are left, %d are done", f.Left, done)
			}
		}
	}
}

func TestSearchArguments(t *testing.T) {
	for _, x := range []api.Ascent{rising(), never(), overflowing()[0]} {
		for _, budget := range []int{-1, api.MaxCells + 1, math.MaxInt, math.MinInt} {
			f, e := ascent.Search(x, budget)
			hasFound(t, "Search, a budget that is not valid", f, e, api.Found{}, api.ErrArg)
		}
	}
	for _, x := range overflowing() {
		for _, budget := range []int{0, 1, api.MaxCells} {
			f, e := ascent.Search(x, budget)
			hasFound(t, "Search, a cost that does not fit", f, e, api.Found{}, api.ErrRange)
		}
	}
	// That the middle fits, or the arcs have no directions, does not matter.
	x := rising()
	x.Parts[0].Arc.Flow = at(api.MostNum / 8)
	x.Parts[0].Arc.Time += 64
	x.East = box(0, 0, 1)
	f, e := ascent.Search(x, 9)
	hasFound(t, "Search, a cost whose Hi does not fit", f, e, api.Found{}, api.ErrRange)
}

// TestSearchWholeBudget spends the whole budget.
func TestSearchWholeBudget(t *testing.T) {
	x := rising()
	x.Parts[0].Pitch, x.Parts[0].Level = raw(api.One/2, api.One), raw(api.One/2, api.One)
	x.Parts[0].Arc.Step = 8 * api.One
	x.Height = raw(api.One*9/8, api.One*3/2)
	for _, budget := range []int{api.MaxCells - 1, api.MaxCells} {
		f, e := ascent.Search(x, budget)
		want, _ := exactSearch(x, budget)
		hasFound(t, "Search, a great budget", f, e, want, api.OK)
		if f.Cells != budget || f.Why != 2 || len(f.Best) == 0 {
			t.Errorf("the budget of %d is not spent, or nothing is found: %+v", budget, f)
		}
	}
}

// randomSearch returns a task for a search: short flights, to what a climb of it comes to, or nearly so.
func randomSearch(r *rand.Rand) api.Ascent {
	x := randomTask(r)
	x.Parts = x.Parts[:1+r.IntN(len(x.Parts))]
	for i := range x.Parts {
		a := &x.Parts[i].Arc
		a.Step = a.Time
		if r.IntN(3) == 0 {
			a.Step = a.Time/2 + 1
		}
	}
	if r.IntN(4) == 0 {
		for i := range x.Parts {
			for _, a := range []*api.Span{&x.Parts[i].Pitch, &x.Parts[i].Level} {
				a.Lo = max(a.Lo, a.Hi-api.Num(r.IntN(4)))
			}
		}
	}
	x = aimed(r, x, randomClimb(r, everything(x)))
	for _, a := range goals(&x) {
		if r.IntN(2) == 0 && a.Lo > -api.MostNum {
			by := api.One >> r.IntN(8)
			*a = raw(max(a.Lo-by, -api.MostNum), min(a.Hi, api.MostNum-by)+by)
		}
	}
	return x
}

// TestSearchTakesItsWay holds searches against one that is written as the chapter has it.
func TestSearchTakesItsWay(t *testing.T) {
	r := random()
	counts := map[string]int{}
	for range 1200 {
		x := randomSearch(r)
		budget := r.IntN(14)
		want, done := exactSearch(x, budget)
		f, e := ascent.Search(x, budget)
		hasFound(t, "Search", f, e, want, api.OK)
		how := []string{"gap", "no cells", "budget"}[want.Why]
		if len(want.Best) > 0 {
			how += ", a climb"
		}
		if done > 0 {
			how += ", done"
		}
		counts[how]++
		if len(want.Best) > 0 && !slices.Equal(want.Best, inTheMiddle(everything(x))) {
			counts["a later climb"]++
		}
	}
	for _, how := range []string{"gap, a climb", "no cells", "no cells, done", "no cells, a climb, done", "budget", "budget, a climb", "budget, a climb, done", "a later climb"} {
		if counts[how] < 5 {
			t.Errorf("%d searches end so: %s (%v)", counts[how], how, counts)
		}
	}
}
