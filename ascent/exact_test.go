package ascent_test

// What the tests share: spans, and the chapter's formulas to hold the program against, with products and directions in fractions of any size.

import (
	"math/big"
	"math/rand/v2"
	"slices"
	"testing"

	"ullage/api"
	"ullage/flight"
)

// none is the least int64, which is no number.
const none = -api.MostNum - 1

// ints returns the span between two integers.
func ints(lo, hi int) api.Span {
	return api.Span{Lo: api.Num(lo) * api.One, Hi: api.Num(hi) * api.One}
}

// raw returns the span between two numbers.
func raw(lo, hi api.Num) api.Span {
	return api.Span{Lo: lo, Hi: hi}
}

// at returns a number as a span.
func at(n api.Num) api.Span {
	return raw(n, n)
}

// box returns a box of three integers as points.
func box(x, y, z int) api.Box {
	return api.Box{ints(x, x), ints(y, y), ints(z, z)}
}

// part returns a number as a part of 2^bits.
func part(n, bits int) api.Num {
	return api.Num(n) << 32 >> bits
}

// random returns a source of numbers that are the same in each run.
func random() *rand.Rand {
	return rand.New(rand.NewPCG(4, 8))
}

// badSpans returns spans that are not valid.
func badSpans() []api.Span {
	return []api.Span{raw(none, none), raw(none, 0), raw(none, api.MostNum), raw(0, none), raw(1, 0), raw(api.One, api.One-1), raw(api.MostNum, -api.MostNum)}
}

// is fails unless a result and its error are what is wanted.
func is[T comparable](t *testing.T, what string, got T, e api.Errno, want T, f api.Errno) {
	t.Helper()
	if got != want || e != f {
		t.Errorf("%s: %v, error %d; want %v, error %d", what, got, e, want, f)
	}
}

// are fails unless a list and its error are what is wanted. Of long lists it shows the beginning.
func are[T comparable](t *testing.T, what string, got []T, e api.Errno, want []T, f api.Errno) {
	t.Helper()
	if !slices.Equal(got, want) || e != f {
		t.Errorf("%s: %d of %v, error %d; want %d of %v, error %d", what, len(got), got[:min(len(got), 20)], e, len(want), want[:min(len(want), 20)], f)
	}
}

// sameArc reports whether two arcs are equal.
func sameArc(a, b api.Arc) bool {
	return a.Time == b.Time && a.Step == b.Step && a.Thrust == b.Thrust && a.Flow == b.Flow && a.Dir == b.Dir && a.Drop == b.Drop && slices.Equal(a.Drag, b.Drag)
}

// areArcs fails unless arcs and their error are what is wanted.
func areArcs(t *testing.T, what string, got []api.Arc, e api.Errno, want []api.Arc, f api.Errno) {
	t.Helper()
	if !slices.EqualFunc(got, want, sameArc) || e != f {
		t.Errorf("%s: %+v, error %d; want %+v, error %d", what, got, e, want, f)
	}
}

// sameFound reports whether two searches have found the same.
func sameFound(a, b api.Found) bool {
	return slices.Equal(a.Best, b.Best) && a.Cost == b.Cost && a.Bound == b.Bound && a.Cells == b.Cells && a.Left == b.Left && a.Why == b.Why
}

// hasFound fails unless what has been found, and its error, are what is wanted.
func hasFound(t *testing.T, what string, got api.Found, e api.Errno, want api.Found, f api.Errno) {
	t.Helper()
	if !sameFound(got, want) || e != f {
		t.Errorf("%s: %+v, error %d; want %+v, error %d", what, got, e, want, f)
	}
}

// exact returns a number as it is.
func exact(n api.Num) *big.Rat {
	return big.NewRat(int64(n), int64(api.One))
}

// rounded rounds out a set of numbers: all from the least one of those that are given to the greatest one.
func rounded(l ...*big.Rat) (api.Span, api.Errno) {
	least := slices.MinFunc(l, (*big.Rat).Cmp)
	most := slices.MaxFunc(l, (*big.Rat).Cmp)
	lo := floor(least)
	hi := floor(new(big.Rat).Neg(most))
	hi.Neg(hi)
	limit := big.NewInt(int64(api.MostNum))
	if lo.CmpAbs(limit) > 0 || hi.CmpAbs(limit) > 0 {
		return api.Span{}, api.ErrRange
	}
	return raw(api.Num(lo.Int64()), api.Num(hi.Int64())), api.OK
}

// floor returns the greatest integer, in units of 2^-32, that is not above x.
func floor(x *big.Rat) *big.Int {
	n := new(big.Int).Lsh(x.Num(), 32)
	return n.Div(n, x.Denom()) // Div of package big rounds down, if the divisor is above 0
}

// times returns all products.
func times(a, b api.Span) (api.Span, api.Errno) {
	var l []*big.Rat
	for _, x := range []api.Num{a.Lo, a.Hi} {
		for _, y := range []api.Num{b.Lo, b.Hi} {
			l = append(l, new(big.Rat).Mul(exact(x), exact(y)))
		}
	}
	return rounded(l...)
}

// direction returns the cosines and the sines of angles, by the tangents of their halves.
func direction(t api.Span) (c, s api.Span) {
	places := []api.Num{t.Lo, t.Hi}
	if t.Lo < 0 && t.Hi > 0 {
		places = append(places, 0)
	}
	var cosines, sines []*big.Rat
	one := big.NewRat(1, 1)
	for _, n := range places {
		x := exact(n)
		square := new(big.Rat).Mul(x, x)
		below := new(big.Rat).Add(one, square)
		cosines = append(cosines, new(big.Rat).Quo(new(big.Rat).Sub(one, square), below))
		sines = append(sines, new(big.Rat).Quo(new(big.Rat).Add(x, x), below))
	}
	c, _ = rounded(cosines...)
	s, _ = rounded(sines...)
	return c, s
}

// exactArcs are the arcs of a cell.
func exactArcs(t api.Ascent, c []api.Knob) ([]api.Arc, api.Errno) {
	var l []api.Arc
	for i, p := range t.Parts {
		a := p.Arc
		a.Thrust, _ = times(a.Thrust, c[i].Level)
		a.Flow, _ = times(a.Flow, c[i].Level)
		cosine, sine := direction(c[i].Pitch)
		for k := range a.Dir {
			x, _ := times(cosine, t.East[k])
			y, _ := times(sine, t.Up[k])
			lo, hi := max(-api.One, x.Lo+y.Lo), min(api.One, x.Hi+y.Hi)
			if lo > hi {
				return nil, api.ErrNone
			}
			a.Dir[k] = raw(lo, hi)
		}
		l = append(l, a)
	}
	return l, api.OK
}

// exactCost is the cost of a cell.
func exactCost(t api.Ascent, c []api.Knob) (api.Span, api.Errno) {
	lo, hi := new(big.Rat), new(big.Rat)
	for i, p := range t.Parts {
		flow, _ := times(p.Arc.Flow, c[i].Level)
		burnt, e := times(flow, at(p.Arc.Time))
		if e != api.OK {
			return api.Span{}, e
		}
		lo.Add(lo, exact(burnt.Lo))
		hi.Add(hi, exact(burnt.Hi))
	}
	return rounded(lo, hi)
}

// judged is a value of a climb, or its error, and what is allowed for it.
type judged struct {
	what      string
	value     api.Span
	e         api.Errno
	low, high api.Num
}

// allJudged returns all that is judged of a cell, if it can be flown.
func allJudged(t api.Ascent, c []api.Knob) (l []judged, flown bool) {
	arcs, e := exactArcs(t, c)
	if e != api.OK {
		return nil, false
	}
	stops, tubes, e := flight.Fly(t.Planet, arcs, t.Start)
	if e != api.OK {
		return nil, false
	}
	end := stops[len(stops)-1]
	take := func(what string, low, high api.Num, value api.Span, e api.Errno) {
		l = append(l, judged{what, value, e, low, high})
	}
	value, e := flight.Height(t.Planet, end.P)
	take("height", t.Height.Lo, t.Height.Hi, value, e)
	value, e = flight.Speed(end.V)
	take("speed", t.Speed.Lo, t.Speed.Hi, value, e)
	value, e = flight.Climb(end.P, end.V)
	take("climb", t.Climb.Lo, t.Climb.Hi, value, e)
	// A tube belongs to the arc in whose time it is.
	to := t.Start.T
	for _, a := range arcs {
		from := to
		to += a.Time
		for _, tube := range tubes {
			if tube.From < from || tube.To > to {
				continue
			}
			value, e = quotient(a.Thrust, tube.M)
			take("axial", none, t.Axial, value, e)
			if len(t.Density) > 0 {
				value, e = flight.Pressure(t.Planet, t.Density, tube)
				take("bending", none, t.Bending, value, e)
			}
		}
	}
	return l, true
}

// quotient returns all quotients of spans of which the second one has only numbers above 0.
func quotient(a, b api.Span) (api.Span, api.Errno) {
	var l []*big.Rat
	for _, x := range []api.Num{a.Lo, a.Hi} {
		for _, y := range []api.Num{b.Lo, b.Hi} {
			l = append(l, new(big.Rat).Quo(exact(x), exact(y)))
		}
	}
	return rounded(l...)
}

// verdict is what Judge has to find.
func verdict(t api.Ascent, c []api.Knob) int {
	l, flown := allJudged(t, c)
	fails, reaches := false, flown
	for _, j := range l {
		fails = fails || j.e == api.OK && (j.value.Hi < j.low || j.value.Lo > j.high)
		reaches = reaches && j.e == api.OK && j.value.Lo >= j.low && j.value.Hi <= j.high
	}
	switch {
	case fails:
		return -1
	case reaches:
		return 1
	}
	return 0
}

// What has become of a cell.
const (
	isOpen = iota
	isDone
	isGone
)

// looked is a cell of a search, as the chapter has it.
type looked struct {
	knobs []api.Knob
	state int
}

// exactSearch is what a search has to find, and how many cells are done at its end.
func exactSearch(t api.Ascent, budget int) (f api.Found, done int) {
	all := []looked{{knobs: everything(t)}}
	for {
		next := -1
		f.Left, f.Bound, done = 0, api.MostNum, 0
		for i, c := range all {
			if c.state == isGone {
				continue
			}
			f.Left++
			low := lowest(t, c.knobs)
			f.Bound = min(f.Bound, low)
			if c.state == isDone {
				done++
			} else if next < 0 || low < lowest(t, all[next].knobs) {
				next = i
			}
		}
		if next < 0 {
			f.Why = 1
			return f, done
		}
		if f.Best != nil && f.Cost.Hi-f.Bound <= t.Gap {
			f.Why = 0
			return f, done
		}
		if f.Cells == budget {
			f.Why = 2
			return f, done
		}
		f.Cells++
		all[next].state = isGone
		knobs := all[next].knobs
		if verdict(t, knobs) == -1 {
			continue
		}
		mids := inTheMiddle(knobs)
		if cost, _ := exactCost(t, mids); verdict(t, mids) == 1 && (f.Best == nil || cost.Hi < f.Cost.Hi) {
			f.Best, f.Cost = mids, cost
		}
		low, high := inHalves(knobs)
		if low == nil {
			all[next].state = isDone
		} else {
			all = append(all, looked{knobs: low}, looked{knobs: high})
		}
	}
}

// everything returns the cell of all ranges.
func everything(t api.Ascent) []api.Knob {
	var c []api.Knob
	for _, p := range t.Parts {
		c = append(c, api.Knob{Pitch: p.Pitch, Level: p.Level})
	}
	return c
}

// lowest returns the Lo of the cost of a cell.
func lowest(t api.Ascent, c []api.Knob) api.Num {
	a, _ := exactCost(t, c)
	return a.Lo
}

// mid returns the middle of two numbers within -1 and 1, rounded down.
func mid(a api.Span) api.Num {
	return (a.Lo + a.Hi) >> 1
}

func inTheMiddle(c []api.Knob) []api.Knob {
	var l []api.Knob
	for _, k := range c {
		l = append(l, api.Knob{Pitch: at(mid(k.Pitch)), Level: at(mid(k.Level))})
	}
	return l
}

// inHalves returns the cells with both halves of the widest span of a cell, none if that cannot be split.
func inHalves(c []api.Knob) (low, high []api.Knob) {
	least := api.Num(2)
	for i, k := range c {
		for j, a := range []api.Span{k.Pitch, k.Level} {
			if a.Hi-a.Lo < least {
				continue
			}
			least = a.Hi - a.Lo + 1
			low, high = slices.Clone(c), slices.Clone(c)
			if j == 0 {
				low[i].Pitch.Hi, high[i].Pitch.Lo = mid(a), mid(a)
			} else {
				low[i].Level.Hi, high[i].Level.Lo = mid(a), mid(a)
			}
		}
	}
	return low, high
}
