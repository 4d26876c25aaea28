package ascent_test

// P4.1 (tasks, cells), and that no function takes a task or a cell that is not valid.

import (
	"slices"
	"testing"

	"ullage/api"
	"ullage/ascent"
)

// withBad calls use for each span of a list, changed to each span of another one.
func withBad(spans []*api.Span, bad []api.Span, use func()) {
	for _, s := range spans {
		old := *s
		for _, b := range bad {
			*s = b
			use()
		}
		*s = old
	}
}

// clone returns a task with lists of its own.
func clone(t api.Ascent) api.Ascent {
	t.Parts = slices.Clone(t.Parts)
	for i := range t.Parts {
		t.Parts[i].Arc.Drag = slices.Clone(t.Parts[i].Arc.Drag)
	}
	t.Density = slices.Clone(t.Density)
	return t
}

// points returns a table of so many points.
func points(n int) []api.Point {
	l := []api.Point{}
	for i := range n {
		l = append(l, api.Point{At: api.Num(i) * api.One, Value: ints(1, 2)})
	}
	return l
}

// badTables returns tables that are not valid, but not empty.
func badTables() [][]api.Point {
	l := [][]api.Point{points(api.MaxTable + 1), {{At: 1}, {At: 1}}, {{At: 1}, {At: 0}}, {{At: api.MaxPart + 1}}, {{At: none}}, {{Value: raw(0, api.MaxPart+1)}}}
	for _, bad := range badSpans() {
		l = append(l, []api.Point{{Value: bad}}, []api.Point{{At: 0}, {At: 1, Value: bad}})
	}
	return l
}

// badTasks returns tasks that are not valid, for one reason each.
func badTasks() []api.Ascent {
	var l []api.Ascent
	t := climbing()
	take := func() { l = append(l, clone(t)) }
	p, s := &t.Planet, &t.Start
	axes := []*api.Span{&t.East[0], &t.East[1], &t.East[2], &t.Up[0], &t.Up[1], &t.Up[2]}
	withBad([]*api.Span{&p.Mu, &p.Radius, &p.Oblate, &p.Spin, &p.Pull[0], &p.Pull[1], &p.Pull[2]}, badSpans(), take)
	withBad([]*api.Span{&s.P[0], &s.P[1], &s.P[2], &s.V[0], &s.V[1], &s.V[2], &s.M}, badSpans(), take)
	withBad(axes, badSpans(), take)
	withBad([]*api.Span{&t.Height, &t.Speed, &t.Climb}, badSpans(), take)
	withBad(axes, []api.Span{raw(0, api.One+1), raw(-api.One-1, 0), at(api.One + 1), at(-api.One - 1), ints(-2, 2), anything()}, take)
	withBad([]*api.Span{&p.Mu, &p.Radius}, []api.Span{raw(-1, 0), ints(-2, -1), anything()}, take)
	withBad([]*api.Span{&s.M}, []api.Span{at(0), raw(0, 1), raw(-1, 1), anything()}, take)
	for _, n := range []*api.Num{&t.Axial, &t.Bending, &t.Gap} {
		old := *n
		for _, bad := range []api.Num{-1, none, -api.MostNum, -api.One} {
			*n = bad
			take()
		}
		*n = old
	}
	t.Start.T = none
	take()
	t = climbing()
	for _, bad := range badTables() {
		t.Density = bad
		take()
	}
	t = climbing()
	for _, n := range []int{0, api.MaxParts + 1, 2 * api.MaxParts} {
		t.Parts = nil
		for range n {
			t.Parts = append(t.Parts, climbing().Parts[0])
		}
		take()
	}
	t = climbing()
	for i := range t.Parts {
		for _, bad := range badParts() {
			t.Parts[i] = bad
			take()
		}
		t.Parts[i] = climbing().Parts[i]
	}
	return l
}

// badParts returns parts that are not valid, for one reason each.
func badParts() []api.Part {
	var l []api.Part
	p := climbing().Parts[0]
	take := func() { l = append(l, p) }
	a := &p.Arc
	withBad([]*api.Span{&a.Thrust, &a.Flow, &a.Drop, &p.Pitch, &p.Level}, badSpans(), take)
	withBad([]*api.Span{&a.Thrust, &a.Flow, &a.Drop, &p.Level}, []api.Span{raw(-1, 0), raw(-1, api.One), ints(-2, -1)}, take)
	withBad([]*api.Span{&p.Pitch, &p.Level}, []api.Span{raw(0, api.One+1), at(api.One + 1), ints(1, 2), anything()}, take)
	withBad([]*api.Span{&p.Pitch}, []api.Span{raw(-api.One-1, 0), at(-api.One - 1), ints(-2, 0)}, take)
	for _, n := range []*api.Num{&a.Time, &a.Step} {
		old := *n
		for _, bad := range []api.Num{0, -1, none, -api.MostNum} {
			*n = bad
			take()
		}
		*n = old
	}
	for _, bad := range badTables() {
		a.Drag = bad
		take()
	}
	return l
}

// goodTasks returns tasks that are valid, at the edges.
func goodTasks() []api.Ascent {
	l := []api.Ascent{coasting(), rising(), climbing()}
	take := func(change func(t *api.Ascent)) {
		t := climbing()
		change(&t)
		l = append(l, t)
	}
	take(func(t *api.Ascent) { t.Density = nil })
	take(func(t *api.Ascent) { t.Density = []api.Point{} })
	take(func(t *api.Ascent) { t.Density = points(api.MaxTable) })
	take(func(t *api.Ascent) { t.Axial, t.Bending, t.Gap = 0, 0, 0 })
	take(func(t *api.Ascent) { t.Axial, t.Bending, t.Gap = api.MostNum, api.MostNum, api.MostNum })
	take(func(t *api.Ascent) { t.Height, t.Speed, t.Climb = ints(-9, -8), ints(-9, -8), ints(-9, -8) })
	take(func(t *api.Ascent) { t.East, t.Up = box(-1, 1, 1), box(1, -1, -1) })
	take(func(t *api.Ascent) {
		t.East = api.Box{ints(-1, 1), ints(-1, 1), ints(-1, 1)}
		t.Up = t.East
	})
	take(func(t *api.Ascent) { t.Parts[0].Pitch, t.Parts[0].Level = ints(-1, 1), ints(0, 1) })
	take(func(t *api.Ascent) { t.Parts[1].Pitch, t.Parts[1].Level = ints(-1, -1), ints(0, 0) })
	take(func(t *api.Ascent) { t.Parts[1].Arc = api.Arc{Time: 1, Step: api.MostNum, Drag: []api.Point{}} })
	take(func(t *api.Ascent) { t.Parts = t.Parts[:1] })
	take(func(t *api.Ascent) {
		for len(t.Parts) < api.MaxParts {
			t.Parts = append(t.Parts, t.Parts[0])
		}
	})
	// The direction of an arc does not matter.
	for _, dir := range []api.Span{ints(2, 3), raw(1, 0), at(none)} {
		take(func(t *api.Ascent) { t.Parts[1].Arc.Dir = api.Box{dir, dir, dir} })
	}
	return l
}

func TestTasks(t *testing.T) {
	for _, x := range goodTasks() {
		is(t, "CheckTask", 0, ascent.CheckTask(x), 0, api.OK)
		c, e := ascent.Whole(x)
		are(t, "Whole", c, e, everything(x), api.OK)
		_, e = ascent.Cost(x, c)
		is(t, "Cost", 0, e, 0, api.OK)
		v, e := ascent.Judge(x, c)
		is(t, "Judge", v, e, verdict(x, c), api.OK)
	}
	for _, x := range badTasks() {
		if e := ascent.CheckTask(x); e != api.ErrArg {
			t.Errorf("CheckTask(%+v): error %d", x, e)
		}
		refused(t, "a task that is not valid", x, everything(x))
		c, e := ascent.Whole(x)
		are(t, "Whole of a task that is not valid", c, e, nil, api.ErrArg)
		f, e := ascent.Search(x, 1)
		hasFound(t, "Search, a task that is not valid", f, e, api.Found{}, api.ErrArg)
		f, e = ascent.Search(x, 0)
		hasFound(t, "Search, a task that is not valid, no budget", f, e, api.Found{}, api.ErrArg)
	}
}

// refused fails unless Arcs, Cost and Judge refuse a cell of a task.
func refused(t *testing.T, what string, x api.Ascent, c []api.Knob) {
	t.Helper()
	l, e := ascent.Arcs(x, c)
	areArcs(t, "Arcs, "+what, l, e, nil, api.ErrArg)
	a, e := ascent.Cost(x, c)
	is(t, "Cost, "+what, a, e, api.Span{}, api.ErrArg)
	v, e := ascent.Judge(x, c)
	is(t, "Judge, "+what, v, e, 0, api.ErrArg)
}

func TestCellsThatAreNotValid(t *testing.T) {
	x := climbing()
	first, second := x.Parts[0], x.Parts[1]
	whole := everything(x)
	for _, c := range [][]api.Knob{nil, {}, whole[:1], append(everything(x), whole[1]), append(everything(x), whole...), {whole[1], whole[0]}} {
		refused(t, "a cell of other parts", x, c)
	}
	c := everything(x)
	for i, p := range []api.Part{first, second} {
		for j, all := range []api.Span{p.Pitch, p.Level} {
			a := []*api.Span{&c[i].Pitch, &c[i].Level}[j]
			beyond := []api.Span{raw(all.Lo-1, all.Hi), raw(all.Lo, all.Hi+1), at(all.Lo - 1), at(all.Hi + 1), anything()}
			withBad([]*api.Span{a}, append(beyond, badSpans()...), func() {
				refused(t, "a cell that is beyond its task", x, c)
			})
			for _, good := range []api.Span{all, at(all.Lo), at(all.Hi), raw(all.Lo+1, all.Hi-1)} {
				*a = good
				_, e := ascent.Arcs(x, c)
				is(t, "Arcs", 0, e, 0, api.OK)
				_, e = ascent.Cost(x, c)
				is(t, "Cost", 0, e, 0, api.OK)
				_, e = ascent.Judge(x, c)
				is(t, "Judge", 0, e, 0, api.OK)
			}
			*a = all
		}
	}
	// A task that is not valid, or a cell, comes before what is wrong with its arcs and its cost.
	x = twisted()
	x.Parts[0].Arc.Flow = at(api.MostNum)
	refused(t, "a cell of other parts, of a task without arcs", x, nil)
	x.Parts = append(x.Parts, api.Part{})
	refused(t, "a task that is not valid, without arcs", x, append(everything(x), api.Knob{}))
}

// twisted returns a task whose directions are beyond 1 at a pitch of 1/2, which is all that there is: its cell has a cost, but no arcs.
func twisted() api.Ascent {
	t := rising()
	t.East, t.Up = box(0, 1, 0), box(0, 1, 0)
	t.Parts[0].Pitch = at(api.One / 2)
	return t
}

func TestArcs(t *testing.T) {
	x := climbing()
	c := []api.Knob{{Pitch: at(api.One / 2), Level: raw(api.One/2, api.One*3/4)}, {Pitch: at(0), Level: at(api.One)}}
	first, second := x.Parts[0].Arc, x.Parts[1].Arc
	first.Thrust = raw(4*api.One, api.One*27/4)
	first.Flow = raw(api.One-part(1, 7), (2*api.One+part(1, 6))*3/4)
	cosine, sine := raw(api.One*3/5, api.One*3/5+1), raw(api.One*4/5, api.One*4/5+1)
	first.Dir = api.Box{sine, cosine, at(0)}
	second.Dir = box(0, 1, 0)
	l, e := ascent.Arcs(x, c)
	areArcs(t, "Arcs", l, e, []api.Arc{first, second}, api.OK)
	// What is given as a direction does not matter.
	x.Parts[0].Arc.Dir, x.Parts[1].Arc.Dir = api.Box{ints(5, 4), at(none), at(1)}, box(1, 1, 1)
	l, e = ascent.Arcs(x, c)
	areArcs(t, "Arcs", l, e, []api.Arc{first, second}, api.OK)
}

func TestDirections(t *testing.T) {
	for _, c := range []struct {
		what     string
		pitch    api.Span
		east, up api.Box
		want     api.Box
		e        api.Errno
	}{
		{"level", at(0), box(1, 0, 0), box(0, 0, 1), box(1, 0, 0), api.OK},
		{"upright", ints(1, 1), box(1, 0, 0), box(0, 0, 1), box(0, 0, 1), api.OK},
		{"down", ints(-1, -1), box(1, 0, 0), box(0, 0, 1), box(0, 0, -1), api.OK},
		{"any", ints(-1, 1), box(1, 0, 0), box(0, 0, 1), api.Box{ints(0, 1), at(0), ints(-1, 1)}, api.OK},
		{"up to upright", ints(0, 1), box(0, -1, 0), box(-1, 0, 0), api.Box{ints(-1, 0), ints(-1, 0), at(0)}, api.OK},
		{"what is beyond 1 and what is not", ints(0, 1), box(1, -1, 0), box(1, -1, 0), api.Box{ints(0, 1), ints(-1, 0), at(0)}, api.OK},
		{"1 alone", at(0), box(1, -1, 0), box(1, 1, 1), box(1, -1, 0), api.OK},
		{"above 1", at(api.One / 2), box(1, 0, 0), box(1, 0, 0), api.Box{}, api.ErrNone},
		{"above 1 in y", at(1 << 20), box(0, 1, 0), box(0, 1, 0), api.Box{}, api.ErrNone},
		{"below -1 in z", at(api.One / 2), box(0, 0, -1), box(0, 0, -1), api.Box{}, api.ErrNone},
		{"just 1", raw(0, api.One/2), box(1, 0, 0), box(1, 0, 0), api.Box{raw(api.One*3/5, api.One), at(0), at(0)}, api.OK},
	} {
		x := rising()
		x.East, x.Up, x.Parts[0].Pitch = c.east, c.up, c.pitch
		l, e := ascent.Arcs(x, everything(x))
		var got api.Box
		if len(l) > 0 {
			got = l[0].Dir
		}
		is(t, "the direction, "+c.what, got, e, c.want, c.e)
		// The error of a part behind is found, too.
		x.Parts = []api.Part{x.Parts[0], x.Parts[0]}
		x.Parts[0].Pitch = at(0)
		_, f := ascent.Arcs(x, everything(x))
		is(t, "the direction of a second part, "+c.what, 0, f, 0, c.e)
	}
}

// overflowing returns tasks whose cost does not fit, though each flow does: a product, or a sum of some.
func overflowing() []api.Ascent {
	x := rising()
	x.Parts[0].Arc.Flow = at(api.MostNum / 8)
	x.Parts[0].Arc.Time = 8*api.One + 64
	half := rising()
	half.Parts[0].Arc.Flow, half.Parts[0].Arc.Time = at(api.MostNum/2+1), api.One
	half.Parts = append(half.Parts, half.Parts[0])
	behind := rising()
	behind.Parts = append(behind.Parts, behind.Parts[0])
	behind.Parts[1].Arc.Flow = at(api.MostNum)
	return []api.Ascent{x, half, behind}
}

func TestCost(t *testing.T) {
	third := api.One / 3
	for _, c := range []struct {
		what       string
		flow       api.Span
		time, step api.Num
		level      api.Span
		parts      int
		want       api.Span
		e          api.Errno
	}{
		{"the example", at(api.One / 4), 8 * api.One, api.One, raw(api.One/2, api.One), 1, ints(1, 2), api.OK},
		{"three parts", raw(api.One/4, api.One/2), 8 * api.One, api.One, raw(api.One/2, api.One), 3, ints(3, 12), api.OK},
		{"eight parts", at(api.One / 4), 8 * api.One, api.One, at(api.One), 8, ints(16, 16), api.OK},
		{"nothing", at(api.One / 4), 8 * api.One, api.One, at(0), 2, at(0), api.OK},
		{"the least", at(1), 1, 1, at(1), 1, raw(0, 1), api.OK},
		{"two of the least", at(1), 1, 1, at(1), 2, raw(0, 2), api.OK},
		{"a flow that is rounded", at(third), 2 * api.One, 1, at(third), 1, raw(954437176, 954437178), api.OK},
		{"the most", at(api.MostNum), api.One, 1, at(api.One), 1, at(api.MostNum), api.OK},
		{"one more", at(api.MostNum), api.One + 1, 1, at(api.One), 1, api.Span{}, api.ErrRange},
		{"a sum of the most", at(api.MostNum / 2), api.One, 1, at(api.One), 2, at(api.MostNum - 1), api.OK},
		{"a sum of one more", at(api.MostNum/2 + 1), api.One, 1, at(api.One), 2, api.Span{}, api.ErrRange},
		{"half of one more", at(api.MostNum/2 + 1), api.One, 1, at(api.One / 2), 2, raw(api.MostNum/2+1, api.MostNum/2+1), api.OK},
		{"its Hi alone does not fit", at(api.MostNum), 2 * api.One, 1, raw(0, api.One), 1, api.Span{}, api.ErrRange},
	} {
		x := rising()
		p := x.Parts[0]
		p.Arc.Flow, p.Arc.Time, p.Arc.Step, p.Level = c.flow, c.time, c.step, c.level
		x.Parts = nil
		for range c.parts {
			x.Parts = append(x.Parts, p)
		}
		a, e := ascent.Cost(x, everything(x))
		is(t, "Cost, "+c.what, a, e, c.want, c.e)
	}
	// A cell without arcs has a cost; one whose cost does not fit has arcs.
	a, e := ascent.Cost(twisted(), everything(twisted()))
	is(t, "Cost of a cell without arcs", a, e, ints(1, 2), api.OK)
	for _, x := range overflowing() {
		a, e := ascent.Cost(x, everything(x))
		is(t, "Cost, too much", a, e, api.Span{}, api.ErrRange)
		l, e := ascent.Arcs(x, everything(x))
		want, _ := exactArcs(x, everything(x))
		areArcs(t, "Arcs of a cell whose cost does not fit", l, e, want, api.OK)
		x.East, x.Up = box(1, 1, 1), box(1, 1, 1)
		x.Parts[0].Pitch = at(api.One / 2)
		a, e = ascent.Cost(x, everything(x))
		is(t, "Cost, too much, without arcs", a, e, api.Span{}, api.ErrRange)
		l, e = ascent.Arcs(x, everything(x))
		areArcs(t, "Arcs of a cell whose directions and cost do not fit", l, e, nil, api.ErrNone)
	}
}

// TestCellsAreExact holds arcs and costs against the formulas in fractions.
func TestCellsAreExact(t *testing.T) {
	r := random()
	counts := map[api.Errno]int{}
	for range 4000 {
		x := randomTask(r)
		if r.IntN(4) == 0 {
			x.Parts[0].Arc.Flow = sized(r, api.MostNum/2, api.One)
		}
		if r.IntN(4) == 0 {
			x.East, x.Up = axes(r, true)
		}
		c := randomCell(r, x)
		l, e := ascent.Arcs(x, c)
		want, f := exactArcs(x, c)
		areArcs(t, "Arcs", l, e, want, f)
		counts[f]++
		a, e := ascent.Cost(x, c)
		cost, f := exactCost(x, c)
		is(t, "Cost", a, e, cost, f)
		counts[f]++
	}
	for _, e := range []api.Errno{api.OK, api.ErrNone, api.ErrRange} {
		if counts[e] < 50 {
			t.Errorf("%d answers with the error %d", counts[e], e)
		}
	}
}
