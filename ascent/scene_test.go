package ascent_test

// Tasks and cells for the tests.

import (
	"math/rand/v2"

	"ullage/api"
)

// anything is all numbers.
func anything() api.Span {
	return raw(-api.MostNum, api.MostNum)
}

// coasting returns a task of a second without forces, from 0 with the velocity (0, 3, 4): it comes to (0, 3, 4), where height, speed and climb are 5. It allows all.
func coasting() api.Ascent {
	return api.Ascent{
		Start: api.State{V: box(0, 3, 4), M: ints(8, 8)},
		Parts: []api.Part{{Arc: api.Arc{Time: api.One, Step: api.One}}},
		Axial: api.MostNum, Bending: api.MostNum, Height: anything(), Speed: anything(), Climb: anything(),
	}
}

// rising returns a task of one part that thrusts upwards, at a level from 1/2 to 1, for 8 s, in steps of 2 s, which costs from 1 to 2. It allows all.
func rising() api.Ascent {
	t := coasting()
	t.Start.V, t.Start.P = box(0, 0, 0), box(0, 0, 1)
	t.East, t.Up = box(1, 0, 0), box(0, 0, 1)
	a := api.Arc{Time: 8 * api.One, Step: 2 * api.One, Thrust: at(api.One / 16), Flow: at(api.One / 4)}
	t.Parts = []api.Part{{Arc: a, Pitch: ints(1, 1), Level: raw(api.One/2, api.One)}}
	return t
}

// climbing returns a task with all that a task may have: an oblate planet that turns, air, two parts.
func climbing() api.Ascent {
	near := func(n, by api.Num) api.Span { return raw(n-by, n+by) }
	drag := []api.Point{{At: 0, Value: raw(20, 30)}, {At: 10 * api.One, Value: raw(5, 9)}, {At: 80 * api.One, Value: raw(0, 1)}}
	first := api.Arc{Time: 4 * api.One, Step: 2 * api.One, Thrust: ints(8, 9), Flow: near(2*api.One, part(1, 6)), Drag: drag, Drop: near(5*api.One, part(1, 4))}
	second := api.Arc{Time: 3 * api.One, Step: 2 * api.One, Thrust: ints(3, 3), Flow: near(api.One, part(1, 6)), Drag: drag}
	return api.Ascent{
		Planet:  api.Planet{Mu: near(398600*api.One, api.One/2), Radius: ints(6371, 6371), Oblate: near(part(7, 12), 1000), Spin: near(313187, 10)},
		Start:   api.State{T: 100 * api.One, P: api.Box{ints(6380, 6380), ints(0, 0), ints(0, 0)}, V: api.Box{ints(1, 1), near(api.One, 1000), ints(0, 0)}, M: near(300*api.One, api.One/8)},
		East:    box(0, 1, 0),
		Up:      box(1, 0, 0),
		Parts:   []api.Part{{Arc: first, Pitch: raw(0, api.One/2), Level: raw(api.One/2, api.One)}, {Arc: second, Pitch: raw(-api.One/4, api.One/4), Level: raw(api.One/4, api.One)}},
		Density: []api.Point{{At: 0, Value: ints(1200, 1300)}, {At: 20 * api.One, Value: ints(80, 90)}},
		Axial:   api.MostNum, Bending: api.MostNum, Height: anything(), Speed: anything(), Climb: anything(),
	}
}

// upTo returns a number from -most to most.
func upTo(r *rand.Rand, most api.Num) api.Num {
	return api.Num(r.Int64N(2*int64(most)+1)) - most
}

// around returns a span around a number, often a point.
func around(r *rand.Rand, n, width api.Num) api.Span {
	if r.IntN(2) == 0 {
		return at(n)
	}
	return raw(n-api.Num(r.Int64N(int64(width)+1)), n+api.Num(r.Int64N(int64(width)+1)))
}

// sized returns a span of numbers that are not negative, sometimes the point 0.
func sized(r *rand.Rand, most, width api.Num) api.Span {
	if r.IntN(6) == 0 {
		return at(0)
	}
	a := around(r, api.Num(r.Int64N(int64(most)+1)), width)
	return raw(max(0, a.Lo), a.Hi)
}

func aroundBox(r *rand.Rand, most, width api.Num) api.Box {
	return api.Box{around(r, upTo(r, most), width), around(r, upTo(r, most), width), around(r, upTo(r, most), width)}
}

// axes returns two directions whose sums are seldom beyond 1, or, wildly, often.
func axes(r *rand.Rand, wild bool) (east, up api.Box) {
	if wild {
		return clipped(aroundBox(r, api.One, api.One)), clipped(aroundBox(r, api.One, api.One))
	}
	i := r.IntN(3)
	east[i], up[(i+1+r.IntN(2))%3] = around(r, api.One*9/10, 1000), around(r, -api.One*9/10, 1000)
	if r.IntN(2) == 0 {
		east, up = up, east
	}
	return east, up
}

// clipped returns spans within -1 and 1.
func clipped(b api.Box) api.Box {
	for i := range b {
		b[i] = raw(max(-api.One, b[i].Lo), min(api.One, b[i].Hi))
	}
	return b
}

// air returns a table.
func air(r *rand.Rand, most api.Num) []api.Point {
	var l []api.Point
	place := upTo(r, 4*api.One)
	for range 1 + r.IntN(4) {
		l = append(l, api.Point{At: place, Value: sized(r, most, most/64)})
		place += 1 + api.Num(r.Int64N(int64(4*api.One)))
	}
	return l
}

// rangeWithin returns a span within another one: often a point, or narrow, sometimes all.
func rangeWithin(r *rand.Rand, all api.Span) api.Span {
	pick := func() api.Num { return all.Lo + api.Num(r.Int64N(int64(all.Hi-all.Lo)+1)) }
	a, b := pick(), pick()
	switch r.IntN(6) {
	case 0:
		return all
	case 1:
		b = a
	case 2:
		b = a + (b-a)/256
	case 3:
		b = min(all.Hi, a+api.Num(r.IntN(6)))
	case 4:
		a = all.Lo
	}
	return raw(min(a, b), max(a, b))
}

// randomTask returns a valid task that allows all.
func randomTask(r *rand.Rand) api.Ascent {
	t := climbing()
	if r.IntN(3) > 0 {
		t = api.Ascent{
			Planet: api.Planet{Pull: aroundBox(r, api.One/8, api.One/256), Radius: sized(r, api.One, api.One/64)},
			Start:  api.State{T: upTo(r, 100*api.One), P: aroundBox(r, 12*api.One, api.One/64), V: aroundBox(r, 3*api.One, api.One/64), M: around(r, 8*api.One, api.One/16)},
			Axial:  api.MostNum, Bending: api.MostNum, Height: anything(), Speed: anything(), Climb: anything(),
		}
		for range 1 + r.IntN(3) {
			a := api.Arc{Time: 1 + api.Num(r.Int64N(int64(4*api.One))), Thrust: sized(r, 4*api.One, api.One/64), Flow: sized(r, api.One/4, api.One/64), Drop: sized(r, api.One/4, api.One/64)}
			a.Step = a.Time/(1+api.Num(r.IntN(3))) + 1
			if r.IntN(3) == 0 {
				a.Drag = air(r, api.One/16)
			}
			t.Parts = append(t.Parts, api.Part{Arc: a})
		}
		if r.IntN(2) == 0 {
			t.Density = air(r, 4*api.One)
		}
	}
	t.East, t.Up = axes(r, r.IntN(4) == 0)
	for i := range t.Parts {
		t.Parts[i].Pitch, t.Parts[i].Level = rangeWithin(r, ints(-1, 1)), rangeWithin(r, ints(0, 1))
	}
	t.Gap = api.Num(r.Int64()) >> (20 + r.IntN(44))
	return t
}

// randomCell returns a cell of a task.
func randomCell(r *rand.Rand, t api.Ascent) []api.Knob {
	var c []api.Knob
	for _, p := range t.Parts {
		c = append(c, api.Knob{Pitch: rangeWithin(r, p.Pitch), Level: rangeWithin(r, p.Level)})
	}
	return c
}

// randomClimb returns a climb of a cell.
func randomClimb(r *rand.Rand, c []api.Knob) []api.Knob {
	pick := func(a api.Span) api.Span {
		switch r.IntN(4) {
		case 0:
			return at(a.Lo)
		case 1:
			return at(a.Hi)
		}
		return at(a.Lo + api.Num(r.Int64N(int64(a.Hi-a.Lo)+1)))
	}
	var l []api.Knob
	for _, k := range c {
		l = append(l, api.Knob{Pitch: pick(k.Pitch), Level: pick(k.Level)})
	}
	return l
}

// goalNear returns numbers that may be asked of a value: all, some around it, those of it, some of these, or none of these but the next ones.
func goalNear(r *rand.Rand, a api.Span, width api.Num) api.Span {
	far := api.Num(r.Int64N(int64(width) + 1))
	switch r.IntN(9) {
	case 0:
		return a
	case 1:
		return raw(a.Lo-far, a.Hi+far)
	case 2:
		return raw(a.Lo+1-min(1, a.Hi-a.Lo), a.Hi+far)
	case 3:
		return raw(a.Lo-far, a.Hi-min(1, a.Hi-a.Lo))
	case 4:
		return raw(a.Hi, a.Hi+far)
	case 5:
		return raw(a.Lo-far, a.Lo)
	case 6:
		if r.IntN(4) == 0 {
			return raw(a.Hi+1, a.Hi+1+far)
		}
	case 7:
		if r.IntN(4) == 0 {
			return raw(a.Lo-1-far, a.Lo-1)
		}
	}
	return anything()
}

// aimed returns a task that asks, and allows, about what a cell of it comes to, as far as that has no errors.
func aimed(r *rand.Rand, t api.Ascent, c []api.Knob) api.Ascent {
	l, _ := allJudged(t, c)
	lows, highs := map[string]api.Num{}, map[string]api.Num{}
	for _, j := range l {
		if j.e != api.OK {
			continue
		}
		switch j.what {
		case "height":
			t.Height = goalNear(r, j.value, api.One/4)
		case "speed":
			t.Speed = goalNear(r, j.value, api.One/4)
		case "climb":
			t.Climb = goalNear(r, j.value, api.One/4)
		default:
			lows[j.what], highs[j.what] = max(lows[j.what], j.value.Lo), max(highs[j.what], j.value.Hi)
		}
	}
	limit := func(what string) api.Num {
		switch r.IntN(6) {
		case 0:
			return highs[what]
		case 1:
			return max(0, highs[what]-1)
		case 2:
			return lows[what]
		case 3:
			if r.IntN(4) == 0 {
				return max(0, lows[what]-1)
			}
		}
		return api.MostNum
	}
	t.Axial, t.Bending = limit("axial"), limit("bending")
	return t
}
