package ascent_test

// P4.2 (judge).

import (
	"slices"
	"testing"

	"ullage/api"
	"ullage/ascent"
	"ullage/flight"
)

// judgedAs fails unless the cell of all ranges of a task is judged so.
func judgedAs(t *testing.T, what string, x api.Ascent, want int) {
	t.Helper()
	v, e := ascent.Judge(x, everything(x))
	is(t, "Judge, "+what, v, e, want, api.OK)
}

// goals returns what a task asks for: height, speed and climb.
func goals(x *api.Ascent) []*api.Span {
	return []*api.Span{&x.Height, &x.Speed, &x.Climb}
}

var names = []string{"height", "speed", "climb"}

func TestGoals(t *testing.T) {
	five := 5 * api.One
	judgedAs(t, "anything", coasting(), 1)
	for k, name := range names {
		for _, c := range []struct {
			what string
			goal api.Span
			want int
		}{
			{"just that", at(five), 1},
			{"that and more", raw(five, five+1), 1},
			{"that and less", raw(0, five), 1},
			{"more", raw(five+1, 6*api.One), -1},
			{"less", raw(-five, five-1), -1},
			{"much less", raw(-api.MostNum, 0), -1},
			{"the most", at(api.MostNum), -1},
		} {
			x := coasting()
			*goals(&x)[k] = c.goal
			judgedAs(t, c.what+" of "+name, x, c.want)
		}
	}
	// With a range of velocities each value is a range, of which the goal has all, a part, one number, or none.
	for k, name := range names {
		x := coasting()
		x.Start.V[2] = ints(4, 6)
		stops, _, _ := flight.Fly(x.Planet, []api.Arc{x.Parts[0].Arc}, x.Start)
		height, _ := flight.Height(x.Planet, stops[0].P)
		speed, _ := flight.Speed(stops[0].V)
		climb, _ := flight.Climb(stops[0].P, stops[0].V)
		a := []api.Span{height, speed, climb}[k]
		for _, c := range []struct {
			what string
			goal api.Span
			want int
		}{
			{"all", a, 1},
			{"more than all", raw(a.Lo-1, a.Hi+1), 1},
			{"all but the least", raw(a.Lo+1, a.Hi+1), 0},
			{"all but the greatest", raw(a.Lo-1, a.Hi-1), 0},
			{"the greatest", raw(a.Hi, a.Hi+9), 0},
			{"the least", raw(a.Lo-9, a.Lo), 0},
			{"some in the middle", raw(a.Lo+1, a.Hi-1), 0},
			{"above", raw(a.Hi+1, a.Hi+9), -1},
			{"below", raw(a.Lo-9, a.Lo-1), -1},
		} {
			y := x
			*goals(&y)[k] = c.goal
			judgedAs(t, c.what+" of a range of "+name, y, c.want)
		}
	}
}

// TestGoalsTogether has all of the three reached, in doubt, and failed.
func TestGoalsTogether(t *testing.T) {
	x := coasting()
	x.Start.V[2] = ints(4, 6)
	for _, h := range []int{1, 0, -1} {
		for _, s := range []int{1, 0, -1} {
			for _, c := range []int{1, 0, -1} {
				for k, v := range []int{h, s, c} {
					*goals(&x)[k] = []api.Span{ints(-9, -8), ints(-9, 6), anything()}[v+1]
				}
				judgedAs(t, "three goals", x, min(h, s, c))
			}
		}
	}
}

// TestEndIsTheLast checks that goals are those of the last stop, not of one before.
func TestEndIsTheLast(t *testing.T) {
	x := coasting()
	x.Planet.Radius = ints(1, 1)
	x.Parts = append(x.Parts, x.Parts[0], x.Parts[0])
	x.Parts[2].Arc.Step = api.One / 4
	x.Height = ints(14, 14)
	judgedAs(t, "the height of the last stop", x, 1)
	for _, h := range []int{0, 4, 9, 15} {
		x.Height = ints(h, h)
		judgedAs(t, "the height of another stop", x, -1)
	}
}

// pushing returns a task of arcs that thrust for 3 s in steps of 1 s: of 8 t, at 1 t/s, with 4 t km/s^2, at levels from 1/2 to 1 the first one, so that it has 13/2 t at least at its end; without flow the others.
func pushing(more ...api.Span) api.Ascent {
	x := coasting()
	x.Start.V = box(0, 0, 0)
	x.East, x.Up = box(1, 0, 0), box(0, 1, 0)
	a := api.Arc{Time: 3 * api.One, Step: api.One, Thrust: ints(4, 4), Flow: ints(1, 1)}
	x.Parts = []api.Part{{Arc: a, Level: ints(1, 1)}}
	for _, thrust := range more {
		x.Parts = append(x.Parts, api.Part{Arc: api.Arc{Time: 2 * api.One, Step: api.One, Thrust: thrust}, Level: ints(1, 1)})
	}
	return x
}

func TestAxial(t *testing.T) {
	for _, c := range []struct {
		what  string
		x     api.Ascent
		axial api.Num
		want  int
	}{
		// Of 8 t 1 t/s are burnt: 4 / (7, 8), 4 / (6, 7), 4 / (5, 6).
		{"all tubes allowed", pushing(), api.One*4/5 + 1, 1},
		{"the last tube not quite", pushing(), api.One * 4 / 5, 0},
		{"the last tube perhaps", pushing(), api.One * 2 / 3, 0},
		{"the last tube not", pushing(), api.One*2/3 - 1, -1},
		{"no tube", pushing(), 0, -1},
		{"half the level", halfLevel(), api.One*2/5 + 1, 1},
		{"half the level not quite", halfLevel(), api.One * 2 / 5, 0},
		{"any level", anyLevel(), api.One*4/5 + 1, 1},
		{"any level not quite", anyLevel(), api.One * 4 / 5, 0},
		{"any level perhaps", anyLevel(), api.One / 3, 0},
		{"any level not", anyLevel(), api.One/3 - 1, -1},
		// Then 5 t are left.
		{"a second arc of less thrust", pushing(ints(1, 1)), api.One*4/5 + 1, 1},
		{"a second arc of less thrust, but the first", pushing(ints(1, 1)), api.One*2/3 - 1, -1},
		{"a second arc of more thrust", pushing(ints(10, 10)), 2 * api.One, 1},
		{"a second arc of too much thrust", pushing(ints(10, 10)), 2*api.One - 1, -1},
		{"a third arc of more thrust", pushing(ints(0, 0), ints(10, 10)), 2 * api.One, 1},
		{"a third arc of too much thrust", pushing(ints(0, 0), ints(10, 10)), 2*api.One - 1, -1},
		{"a second of three arcs of too much thrust", pushing(ints(10, 10), ints(0, 0)), 2*api.One - 1, -1},
		{"a second arc of perhaps too much thrust", pushing(ints(0, 10), ints(0, 0)), 2*api.One - 1, 0},
		{"arcs of too much thrust and of perhaps too much", pushing(ints(0, 10), ints(5, 5), ints(0, 10)), api.One - 1, -1},
		{"no thrust", coasting(), 0, 1},
		{"what is dropped", dropping(), 2 * api.One, 1},
		{"what is dropped, not", dropping(), 2*api.One - 1, -1},
	} {
		c.x.Axial = c.axial
		judgedAs(t, "thrust, "+c.what, c.x, c.want)
		// The sign of what is asked of the air does not matter, where there is none.
		c.x.Bending, c.x.Density = 0, []api.Point{}
		judgedAs(t, "thrust, no air, "+c.what, c.x, c.want)
	}
}

func halfLevel() api.Ascent {
	x := pushing()
	x.Parts[0].Level = at(api.One / 2)
	x.Parts[0].Arc.Flow = ints(2, 2)
	return x
}

func anyLevel() api.Ascent {
	x := pushing()
	x.Parts[0].Level = raw(api.One/2, api.One)
	x.Parts[0].Arc.Flow = ints(0, 0)
	x.Parts[0].Arc.Drop = ints(2, 2)
	x.Start.M = ints(5, 6)
	return x
}

// dropping returns a task that drops 3 of 8 t and then thrusts with 10 t km/s^2.
func dropping() api.Ascent {
	x := pushing(ints(10, 10))
	x.Parts[0].Arc.Thrust, x.Parts[0].Arc.Flow, x.Parts[0].Arc.Drop = ints(0, 0), ints(0, 0), ints(3, 3)
	return x
}

// sinking returns a task that goes for 3 s, in steps of 1 s, with 4 km/s up from the ground, through air of 2 t/km^3 at the ground and of 1 from 8 km on: 16 to 8 t/(km s^2), and 8 at last.
func sinking() api.Ascent {
	x := coasting()
	x.Start.V, x.Start.P = box(0, 0, 4), box(0, 0, 0)
	x.Parts[0].Arc.Time = 3 * api.One
	x.Density = []api.Point{{At: 0, Value: ints(2, 2)}, {At: 8 * api.One, Value: ints(1, 1)}}
	return x
}

func TestBending(t *testing.T) {
	thick := func(low, high int) api.Ascent {
		x := sinking()
		x.Density = []api.Point{{At: 0, Value: ints(low, high)}}
		return x
	}
	planet := sinking()
	planet.Planet.Radius = ints(8, 8)
	spread := sinking()
	spread.Parts[0].Arc.Step = 3 * api.One
	none := sinking()
	none.Density = nil
	late := sinking()
	late.Density = []api.Point{{At: 8*api.One + 1, Value: ints(0, 0)}, {At: 8*api.One + 2, Value: ints(3, 3)}, {At: 9 * api.One, Value: ints(0, 0)}}
	lately := late
	lately.Density = []api.Point{{At: 7 * api.One, Value: ints(0, 0)}, {At: 8 * api.One, Value: ints(3, 3)}}
	behind := sinking()
	behind.Density = []api.Point{{At: 11 * api.One, Value: ints(0, 0)}, {At: 12 * api.One, Value: ints(3, 3)}}
	behind.Parts = append(behind.Parts, behind.Parts[0])
	for _, c := range []struct {
		what    string
		x       api.Ascent
		bending api.Num
		want    int
	}{
		{"all tubes allowed", sinking(), 16 * api.One, 1},
		{"the first tube not quite", sinking(), 16*api.One - 1, 0},
		{"the first tube perhaps", sinking(), 12 * api.One, 0},
		{"the first tube not", sinking(), 12*api.One - 1, -1},
		{"no tube", sinking(), 0, -1},
		{"one long tube", spread, 12*api.One - 1, 0},
		{"one long tube, at least", spread, 8 * api.One, 0},
		{"one long tube, not", spread, 8*api.One - 1, -1},
		{"constant air", thick(2, 2), 16 * api.One, 1},
		{"constant air, not", thick(2, 2), 16*api.One - 1, -1},
		{"uncertain air", thick(1, 2), 16*api.One - 1, 0},
		{"uncertain air, not", thick(1, 2), 8*api.One - 1, -1},
		{"air below 0", thick(-2, -1), 0, 1},
		{"air above the planet", planet, 16 * api.One, 1},
		{"air above the planet, not", planet, 16*api.One - 1, -1},
		{"no air", none, 0, 1},
		{"air in the last tube perhaps", late, 0, 0},
		{"air in the last tube", lately, 24*api.One - 1, -1},
		{"air in the last tube, allowed", lately, 24 * api.One, 1},
		{"air in the second arc", behind, 24*api.One - 1, -1},
		{"air in the second arc, allowed", behind, 24 * api.One, 1},
	} {
		c.x.Bending = c.bending
		judgedAs(t, "air, "+c.what, c.x, c.want)
		// The limits of thrust and of bending are not taken for each other.
		c.x.Axial = 0
		judgedAs(t, "air, no thrust, "+c.what, c.x, c.want)
	}
}

// TestJudgeWithErrors has values with errors, which leave open what others do not.
func TestJudgeWithErrors(t *testing.T) {
	centre := coasting()
	centre.Start.P = box(0, -3, -4)
	far := coasting()
	far.Start.P = box(1<<20, 0, 0)
	fast := coasting()
	fast.Start.P, fast.Start.V = box(1, 0, 0), box(1<<20, 0, 0)
	fast.Parts[0].Arc.Time = 1
	thick := coasting()
	thick.Density = []api.Point{{At: 0, Value: ints(1<<28, 1<<28)}}
	for _, c := range []struct {
		what string
		x    api.Ascent
		errs []int
		goal api.Span
	}{
		{"no climb in the centre", centre, []int{2}, ints(20, 30)},
		{"no height, and no climb, far away", far, []int{0, 2}, ints(20, 30)},
		{"no speed of what is too fast", fast, []int{1}, ints(20, 30)},
		{"no pressure", thick, nil, ints(20, 30)},
	} {
		judgedAs(t, c.what, c.x, 0)
		for k := range names {
			x := c.x
			*goals(&x)[k] = c.goal
			want := -1
			if slices.Contains(c.errs, k) {
				want = 0
			}
			judgedAs(t, c.what+", and another goal of "+names[k], x, want)
		}
	}
	// One tube has no pressure, another one has too much.
	thick.Parts = append(thick.Parts, thick.Parts[0])
	thick.Density = []api.Point{{At: 0, Value: ints(1<<28, 1<<28)}, {At: 5 * api.One, Value: ints(2, 2)}}
	thick.Bending = 25 * api.One
	judgedAs(t, "no pressure in one tube", thick, 0)
	thick.Bending--
	judgedAs(t, "no pressure in one tube, too much in another one", thick, -1)
	thick.Density = []api.Point{{At: 5 * api.One, Value: ints(2, 2)}, {At: 6 * api.One, Value: ints(1<<28, 1<<28)}}
	judgedAs(t, "no pressure in one tube, too much in one before", thick, -1)
}

// TestJudgeOfWhatIsNotFlown has cells that have no arcs, or no flight: neither do they surely fail, whatever is asked.
func TestJudgeOfWhatIsNotFlown(t *testing.T) {
	burnt := pushing()
	burnt.Start.M = ints(3, 3)
	long := coasting()
	long.Parts[0].Arc.Step = api.One/4096 - 1
	longer := coasting()
	longer.Parts[0].Arc.Step = api.One / 4096
	longer.Parts = append(longer.Parts, coasting().Parts[0])
	far := coasting()
	far.Start.P = box(1<<20, 0, 0)
	far.Planet.Mu = ints(1, 1)
	dropped := coasting()
	dropped.Parts[0].Arc.Drop = ints(8, 8)
	unsteady := coasting()
	unsteady.Start.P, unsteady.Start.V = box(0, 0, 1), box(0, 0, -1)
	unsteady.Planet.Mu = ints(1, 1)
	for _, c := range []struct {
		what string
		x    api.Ascent
	}{
		{"no arcs", twisted()}, {"no mass is left", burnt}, {"too many steps", long}, {"too many steps together", longer},
		{"forces that do not fit", far}, {"all is dropped", dropped}, {"no tube", unsteady},
	} {
		judgedAs(t, c.what, c.x, 0)
		c.x.Axial, c.x.Bending, c.x.Density = 0, 0, points(1)
		c.x.Height, c.x.Speed, c.x.Climb = ints(-2, -1), ints(-2, -1), ints(-2, -1)
		judgedAs(t, c.what+", and nothing is allowed", c.x, 0)
	}
	// As many steps as there may be.
	longer.Parts = longer.Parts[:1]
	longer.Height = ints(5, 5)
	judgedAs(t, "as many steps as there may be", longer, 1)
	longer.Height = ints(6, 6)
	judgedAs(t, "as many steps as there may be, to another height", longer, -1)
}

// TestJudge holds verdicts against what is found in another way.
func TestJudge(t *testing.T) {
	r := random()
	counts := map[int]int{}
	alone := map[string]int{}
	for range 4000 {
		x := randomTask(r)
		c := randomCell(r, x)
		x = aimed(r, x, c)
		v, e := ascent.Judge(x, c)
		want := verdict(x, c)
		is(t, "Judge", v, e, want, api.OK)
		counts[want]++
		for _, why := range reasons(x, c) {
			alone[why]++
		}
	}
	for v := -1; v <= 1; v++ {
		if counts[v] < 300 {
			t.Errorf("%d cells are judged %d", counts[v], v)
		}
	}
	for _, why := range []string{"height fails", "speed fails", "climb fails", "axial fails", "bending fails", "height", "speed", "climb", "axial", "bending"} {
		if alone[why] < 10 {
			t.Errorf("of %d cells the verdict is for one reason, %s", alone[why], why)
		}
	}
}

// reasons returns for what a cell fails, or is in doubt, if that is one value alone.
func reasons(x api.Ascent, c []api.Knob) []string {
	var fails, doubts []string
	l, _ := allJudged(x, c)
	for _, j := range l {
		switch {
		case j.e == api.OK && (j.value.Hi < j.low || j.value.Lo > j.high):
			fails = append(fails, j.what+" fails")
		case j.e != api.OK || j.value.Lo < j.low || j.value.Hi > j.high:
			doubts = append(doubts, j.what)
		}
	}
	switch {
	case len(fails) == 1:
		return fails
	case len(fails) == 0 && len(doubts) == 1:
		return doubts
	}
	return nil
}
