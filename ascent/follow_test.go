package ascent_test

// P4.7, P4.8 (what follows), P0.1, P0.3, and the chapter's examples.

import (
	"math/rand/v2"
	"reflect"
	"slices"
	"testing"

	"ullage/api"
	"ullage/ascent"
	"ullage/span"
)

// TestNothingBeatsTheBest checks what a search finds against climbs of its task that surely reach.
func TestNothingBeatsTheBest(t *testing.T) {
	r := random()
	found, reached, empty := 0, 0, 0
	for range 600 {
		x := randomSearch(r)
		f, e := ascent.Search(x, 1+r.IntN(30))
		if e != api.OK {
			t.Fatalf("a search has the error %d", e)
		}
		if len(f.Best) > 0 {
			found++
			bestIsGood(t, x, f)
		}
		nothing := f.Why == 1 && len(f.Best) == 0 && f.Left == 0
		if nothing {
			empty++
		}
		for range 12 {
			c := randomClimb(r, everything(x))
			if v, _ := ascent.Judge(x, c); v != 1 {
				continue
			}
			reached++
			cost, _ := ascent.Cost(x, c)
			if nothing || cost.Lo < f.Bound {
				t.Errorf("%+v, in %+v: the climb %v costs %v", f, x, c, cost)
			}
			if len(f.Best) > 0 && f.Why == 0 && f.Cost.Hi-cost.Lo > x.Gap {
				t.Errorf("%+v, in %+v: the climb %v costs %v, less by more than the gap", f, x, c, cost)
			}
		}
	}
	if found < 100 || reached < 500 || empty < 20 {
		t.Errorf("only %d searches find a climb, %d other climbs reach, %d searches are empty", found, reached, empty)
	}
}

// bestIsGood checks that the best climb is one of the task, surely reaches, and costs what is said.
func bestIsGood(t *testing.T, x api.Ascent, f api.Found) {
	t.Helper()
	v, e := ascent.Judge(x, f.Best)
	is(t, "Judge of the best climb", v, e, 1, api.OK)
	cost, e := ascent.Cost(x, f.Best)
	is(t, "Cost of the best climb", cost, e, f.Cost, api.OK)
	for _, k := range f.Best {
		if k.Pitch.Lo != k.Pitch.Hi || k.Level.Lo != k.Level.Hi {
			t.Errorf("the best climb %v is none", f.Best)
		}
	}
	if f.Why == 0 && f.Cost.Hi-f.Bound > x.Gap {
		t.Errorf("%+v has not come to the gap %d", f, x.Gap)
	}
}

// TestGreaterBudgets checks that with a greater budget the bound is not less, and the best climb does not cost more.
func TestGreaterBudgets(t *testing.T) {
	r := random()
	better := 0
	for range 150 {
		x := randomSearch(r)
		last, _ := ascent.Search(x, 0)
		for budget := 1; budget < 20; budget += 1 + r.IntN(4) {
			f, _ := ascent.Search(x, budget)
			if f.Bound < last.Bound || len(last.Best) > 0 && (len(f.Best) == 0 || f.Cost.Hi > last.Cost.Hi) {
				t.Errorf("%+v comes of a greater budget than %+v", f, last)
			}
			if f.Bound > last.Bound || f.Cost.Hi < last.Cost.Hi {
				better++
			}
			if f.Cells > budget || f.Cells < last.Cells {
				t.Errorf("%+v comes of the budget %d, %+v of one before", f, budget, last)
			}
			last = f
		}
	}
	if better < 50 {
		t.Errorf("only %d greater budgets are better", better)
	}
}

// TestCellsInCells checks that a cell within another one has a cost within the other one's, and that a climb within a cell that surely fails does not reach.
func TestCellsInCells(t *testing.T) {
	r := random()
	failed := 0
	for range 1500 {
		x := randomSearch(r)
		outer := randomCell(r, x)
		y := x
		y.Parts = slices.Clone(x.Parts)
		for i := range y.Parts {
			y.Parts[i].Pitch, y.Parts[i].Level = outer[i].Pitch, outer[i].Level
		}
		cost, _ := ascent.Cost(x, outer)
		v, _ := ascent.Judge(x, outer)
		for range 4 {
			inner := randomCell(r, y)
			if a, e := ascent.Cost(x, inner); e != api.OK || !span.Within(a, cost) {
				t.Errorf("the cost %v of %v is not within that of %v, %v", a, inner, outer, cost)
			}
			climb := randomClimb(r, inner)
			w, _ := ascent.Judge(x, climb)
			if v == -1 {
				failed++
				if w == 1 {
					t.Errorf("the climb %v reaches, but %v fails", climb, outer)
				}
			}
		}
	}
	if failed < 500 {
		t.Errorf("only %d climbs are within cells that fail", failed)
	}
}

// TestMeetingsComeAgain checks that the times in both of two windows come again after the least common multiple of their periods, and that there is a Next within it unless Often is 0.
func TestMeetingsComeAgain(t *testing.T) {
	r := random()
	for range 2000 {
		a, b := randomWindow(r, 1+r.IntN(40)), randomWindow(r, 1+r.IntN(40))
		both := a.Period / common(a.Period, b.Period) * b.Period
		from := r.IntN(1000) - 500
		inA, _ := ascent.Slots(a, from, from+both)
		inB, _ := ascent.Slots(b, from, from+both)
		l, _ := ascent.Both(inA, inB)
		total, _ := ascent.Total(l)
		n, e := ascent.Often(a, b)
		is(t, "Often", n, e, total, api.OK)
		x, e := ascent.Next(a, b, from)
		if total == 0 {
			is(t, "Next, never", x, e, 0, api.ErrNone)
			continue
		}
		is(t, "Next", x, e, l[0].From, api.OK)
		again, e := ascent.Next(a, b, from+both)
		is(t, "Next, later", again, e, x+both, api.OK)
		if x < from || x >= from+both || !ascent.Contains(a, x) || !ascent.Contains(b, x) {
			t.Errorf("Next(%v, %v, %d) is %d", a, b, from, x)
		}
	}
}

// roomy returns a task whose lists have room behind them in which nothing may be written, and all that is in it.
func roomy() (x api.Ascent, parts []api.Part, tables [2][]api.Point) {
	x = climbing()
	tables = [2][]api.Point{points(9), points(7)}
	x.Density = tables[0][:2]
	parts = append(x.Parts, x.Parts[0], x.Parts[1])
	for i := range parts {
		parts[i].Arc.Drag = tables[1][:3]
	}
	x.Parts = parts[:2]
	return x, parts, tables
}

// TestArgumentsAreOnlyRead checks that lists are as they were behind calls, also behind their ends.
func TestArgumentsAreOnlyRead(t *testing.T) {
	x, parts, tables := roomy()
	c := append(everything(x), api.Knob{})
	cell := c[:2]
	a, b := row(9, 0, 3, 10), row(9, 2, 5, 10)
	for range 2 {
		ascent.CheckTask(x)
		ascent.Whole(x)
		ascent.Arcs(x, cell)
		ascent.Cost(x, cell)
		ascent.Judge(x, cell)
		ascent.Search(x, 5)
		ascent.Both(a[:5], b[:6])
		ascent.Either(a[:5], b[:6])
		ascent.Without(a[:5], b[:6])
		ascent.Either(a[:5], nil)
		ascent.Total(a[:5])
	}
	y, wantParts, wantTables := roomy()
	if !reflect.DeepEqual(x, y) || !reflect.DeepEqual(parts, wantParts) || !reflect.DeepEqual(tables, wantTables) {
		t.Error("a task has been changed")
	}
	if !slices.Equal(c, append(everything(y), api.Knob{})) || !slices.Equal(a, row(9, 0, 3, 10)) || !slices.Equal(b, row(9, 2, 5, 10)) {
		t.Error("a cell or a set has been changed")
	}
}

// spoil changes all that a list has room for.
func spoil[T any](l []T) {
	clear(l[:cap(l)])
}

// TestResultsAreNew checks that a result shares no memory with an argument, with another result, or within itself.
func TestResultsAreNew(t *testing.T) {
	x, parts, tables := roomy()
	cell := everything(x)
	whole, _ := ascent.Whole(x)
	arcs, _ := ascent.Arcs(x, cell)
	found, _ := ascent.Search(x, 3)
	if len(found.Best) == 0 {
		t.Fatal("there is no best climb")
	}
	other, _ := ascent.Whole(x)
	spoil(other)
	more, _ := ascent.Arcs(x, cell)
	for _, a := range more {
		spoil(a.Drag)
	}
	spoil(more)
	another, _ := ascent.Search(x, 3)
	spoil(another.Best)
	if y, wantParts, wantTables := roomy(); !reflect.DeepEqual(x, y) || !reflect.DeepEqual(parts, wantParts) || !reflect.DeepEqual(tables, wantTables) {
		t.Error("what is done to a result changes an argument")
	}
	// Both arcs have the same table, each one of its own.
	spoil(arcs[0].Drag)
	arcs[0].Drag = points(9)[:3]
	spoil(tables[1])
	spoil(parts)
	spoil(cell)
	y, _, _ := roomy()
	wantArcs, _ := exactArcs(y, everything(y))
	areArcs(t, "Arcs, spoiled", arcs, api.OK, wantArcs, api.OK)
	are(t, "Whole, spoiled", whole, api.OK, everything(y), api.OK)
	want, _ := exactSearch(y, 3)
	hasFound(t, "Search, spoiled", found, api.OK, want, api.OK)
}

// TestSetsAreNew checks that sets share no memory with arguments, or with each other.
func TestSetsAreNew(t *testing.T) {
	a, b := row(5, 0, 3, 10), row(5, 2, 5, 10)
	for _, o := range operations() {
		for _, c := range [][2][]api.Slot{{a, b}, {a, nil}, {nil, a}, {a, a}, {a, slots(0, 99)}, {a, slots(99, 100)}} {
			first, _ := o.make(c[0], c[1])
			want := slices.Clone(first)
			second, _ := o.make(c[0], c[1])
			spoil(second)
			are(t, o.name+", spoiled", first, api.OK, want, api.OK)
			are(t, "a set that was an argument", a, api.OK, row(5, 0, 3, 10), api.OK)
			are(t, "a set that was an argument", b, api.OK, row(5, 2, 5, 10), api.OK)
		}
	}
	for _, w := range []api.Window{window(10, 3, 2), window(10, 3, 10)} {
		first, _ := ascent.Slots(w, 0, 25)
		want := slices.Clone(first)
		second, _ := ascent.Slots(w, 0, 25)
		spoil(second)
		are(t, "Slots, spoiled", first, api.OK, want, api.OK)
	}
}

// anyNum returns a number of any size, valid or not.
func anyNum(r *rand.Rand) api.Num {
	edge := []api.Num{none, -api.MostNum, -api.One, -1, 0, 1, api.One / 2, api.One, api.One + 1, api.MostNum}
	if r.IntN(2) == 0 {
		return edge[r.IntN(len(edge))]
	}
	return api.Num(r.Uint64()) >> r.IntN(64)
}

// anySpan returns a span of any numbers, mostly valid.
func anySpan(r *rand.Rand) api.Span {
	a, b := anyNum(r), anyNum(r)
	if r.IntN(12) == 0 {
		return raw(a, b)
	}
	return raw(min(a, b), max(a, b))
}

// TestAnyTasks calls the functions of tasks with arguments of any kind: none may panic, and with an error all other results are zero.
func TestAnyTasks(t *testing.T) {
	r := random()
	counts := map[api.Errno]int{}
	for range 4000 {
		x := randomTask(r)
		p := &x.Parts[r.IntN(len(x.Parts))]
		c := randomCell(r, x)
		k := &c[r.IntN(len(c))]
		odds := 4 + r.IntN(60)
		for _, a := range []*api.Span{&x.Planet.Mu, &x.Planet.Radius, &x.Planet.Spin, &x.Planet.Pull[0], &x.Start.P[0], &x.Start.V[2], &x.Start.M, &x.East[1], &x.Up[2], &x.Height, &x.Speed, &x.Climb, &p.Arc.Thrust, &p.Arc.Flow, &p.Arc.Dir[0], &p.Arc.Drop, &p.Pitch, &p.Level, &k.Pitch, &k.Level} {
			if r.IntN(odds) == 0 {
				*a = anySpan(r)
			}
		}
		for _, n := range []*api.Num{&x.Start.T, &x.Axial, &x.Bending, &x.Gap, &p.Arc.Time, &p.Arc.Step} {
			if r.IntN(odds) == 0 {
				*n = anyNum(r)
			}
		}
		if r.IntN(odds) == 0 {
			p.Arc.Flow = sized(r, api.MostNum/2, api.One)
		}
		if r.IntN(odds) == 0 {
			c = c[1:]
		}
		e := ascent.CheckTask(x)
		if whole, f := ascent.Whole(x); f != e || e != api.OK && len(whole) != 0 {
			t.Errorf("Whole: %v, error %d", whole, f)
		}
		arcs, e := ascent.Arcs(x, c)
		zero(t, "Arcs", len(arcs), e, x)
		cost, e := ascent.Cost(x, c)
		zero(t, "Cost", cost, e, x)
		counts[e]++
		v, e := ascent.Judge(x, c)
		zero(t, "Judge", v, e, x)
		f, e := ascent.Search(x, r.IntN(8)-1)
		if e != api.OK && !sameFound(f, api.Found{}) {
			t.Errorf("Search of %+v: %+v, error %d", x, f, e)
		}
		counts[e]++
	}
	for _, e := range []api.Errno{api.OK, api.ErrArg, api.ErrRange} {
		if counts[e] < 10 {
			t.Errorf("%d answers with the error %d", counts[e], e)
		}
	}
}

// zero fails if there is an error, and a result that is not its zero value.
func zero[T comparable](t *testing.T, what string, got T, e api.Errno, x any) {
	t.Helper()
	var none T
	if e != api.OK && got != none {
		t.Errorf("%s of %+v: %v, error %d", what, x, got, e)
	}
}

// anyInt returns an int of any size.
func anyInt(r *rand.Rand) int {
	edge := []int{api.MaxPeriod, api.MaxPeriod + 1, -api.MaxPeriod, api.MaxInstant, -api.MaxInstant, api.MaxInstant + 1, 0, 1, -1, 10}
	if r.IntN(2) == 0 {
		return edge[r.IntN(len(edge))]
	}
	return int(r.Uint64()) >> r.IntN(64)
}

// TestAnyTimes calls the functions of windows and sets with arguments of any kind.
func TestAnyTimes(t *testing.T) {
	r := random()
	for range 50000 {
		a, b := window(anyInt(r), anyInt(r), anyInt(r)), window(anyInt(r), anyInt(r), anyInt(r))
		from, to := anyInt(r), anyInt(r)
		x := []any{a, b, from, to}
		ascent.Contains(a, from)
		l, e := ascent.Slots(a, from, to)
		zero(t, "Slots", len(l), e, x)
		n, e := ascent.Often(a, b)
		zero(t, "Often", n, e, x)
		n, e = ascent.Next(a, b, from)
		zero(t, "Next", n, e, x)
		if e == api.OK && (n < from || !isIn(a, n) || !isIn(b, n)) {
			t.Errorf("Next of %v is %d", x, n)
		}
		set := slots(from, to, anyInt(r), anyInt(r))
		other := slots(anyInt(r), anyInt(r))
		for _, o := range operations() {
			l, e = o.make(set, other)
			zero(t, o.name, len(l), e, x)
		}
		n, e = ascent.Total(set)
		zero(t, "Total", n, e, x)
	}
}

// TestExamples has the table of the chapter's section Examples.
func TestExamples(t *testing.T) {
	a, e := ascent.Cost(rising(), everything(rising()))
	is(t, "the cost", a, e, ints(1, 2), api.OK)
	l, e := ascent.Slots(window(10, 3, 2), 0, 25)
	are(t, "the slots", l, e, slots(3, 5, 13, 15, 23, 25), api.OK)
	l, e = ascent.Slots(window(10, 3, 10), 0, 25)
	are(t, "the slots of all times", l, e, slots(0, 25), api.OK)
	l, e = ascent.Either(slots(0, 5), slots(5, 7))
	are(t, "either", l, e, slots(0, 7), api.OK)
	l, e = ascent.Without(slots(0, 10), slots(3, 5))
	are(t, "without", l, e, slots(0, 3, 5, 10), api.OK)
	w, v := window(4, 0, 1), window(6, 2, 1)
	n, e := ascent.Often(w, v)
	is(t, "often", n, e, 1, api.OK)
	n, e = ascent.Next(w, v, 0)
	is(t, "next from 0", n, e, 8, api.OK)
	n, e = ascent.Next(w, v, 9)
	is(t, "next from 9", n, e, 20, api.OK)
	v.From = 1
	n, e = ascent.Often(w, v)
	is(t, "often, never", n, e, 0, api.OK)
	n, e = ascent.Next(w, v, 0)
	is(t, "next, never", n, e, 0, api.ErrNone)
}
