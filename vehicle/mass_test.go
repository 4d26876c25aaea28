package vehicle_test

// P2.9 (Drag), P2.10 (Total, Mass), P2.11 (Thrust, Flow, Burn) and P2.16.

import (
	"math/big"
	"math/rand/v2"
	"testing"

	"ullage/api"
	"ullage/span"
	"ullage/vehicle"
)

func TestTotalAndMass(t *testing.T) {
	a, e := vehicle.Total(sample())
	isSpan(t, "Total", a, e, api.Span{Lo: 29 * api.One / 2, Hi: 37 * api.One / 2}, api.OK)
	for _, c := range []struct {
		gone int
		used api.Span
		want api.Span
		e    api.Errno
	}{
		{0, ints(0, 0), api.Span{Lo: 29 * api.One / 2, Hi: 37 * api.One / 2}, api.OK},
		{0, ints(1, 2), api.Span{Lo: 25 * api.One / 2, Hi: 35 * api.One / 2}, api.OK},
		{0, ints(10, 12), api.Span{Lo: 9 * api.One / 2, Hi: 17 * api.One / 2}, api.OK},
		{0, ints(11, 11), api.Span{Lo: 9 * api.One / 2, Hi: 15 * api.One / 2}, api.OK},
		{0, ints(0, 100), api.Span{Lo: 9 * api.One / 2, Hi: 37 * api.One / 2}, api.OK},
		{0, ints(100, 100), api.Span{Lo: 9 * api.One / 2, Hi: 13 * api.One / 2}, api.OK},
		{0, api.Span{Lo: api.MostNum, Hi: api.MostNum}, api.Span{Lo: 9 * api.One / 2, Hi: 13 * api.One / 2}, api.OK},
		{1, ints(0, 0), api.Span{Lo: 3 * api.One / 2, Hi: 7 * api.One / 2}, api.OK},
		{1, ints(5, 6), api.Span{Lo: 3 * api.One / 2, Hi: 7 * api.One / 2}, api.OK},
		{0, ints(-1, 0), api.Span{}, api.ErrArg},
		{0, api.Span{Lo: -1, Hi: 5}, api.Span{}, api.ErrArg},
		{0, ints(2, 1), api.Span{}, api.ErrArg},
		{0, api.Span{Lo: 0, Hi: -1 << 63}, api.Span{}, api.ErrArg},
		{0, api.Span{Lo: -1 << 63, Hi: 0}, api.Span{}, api.ErrArg},
		{2, ints(0, 0), api.Span{}, api.ErrNone},
		{-1, ints(0, 0), api.Span{}, api.ErrNone},
		{2, ints(2, 1), api.Span{}, api.ErrNone},
		{1<<63 - 1, ints(0, 0), api.Span{}, api.ErrNone},
		{-1 << 63, ints(-1, 0), api.Span{}, api.ErrNone},
	} {
		a, e := vehicle.Mass(sample(), c.gone, c.used)
		isSpan(t, "Mass", a, e, c.want, c.e)
	}
}

// TestMassOfTheGreatestOne checks that no sum leaves an int.
func TestMassOfTheGreatestOne(t *testing.T) {
	most := api.Span{Lo: api.MaxPlace, Hi: api.MaxPlace}
	v := sample()
	v.Payload, v.Stages = most, nil
	for i := range 8 {
		s := api.Stage{Name: string(rune('A' + i)), Dry: most, Prop: most}
		for k := range 16 {
			s.Engines = append(s.Engines, api.Engine{Name: string([]byte{'x', 'a' + byte(i), 'a' + byte(k)}), Count: 64, Thrust: most, Flow: most})
		}
		v.Stages = append(v.Stages, s)
	}
	a, e := vehicle.Total(v)
	isSpan(t, "Total", a, e, api.Span{Lo: 17 * api.MaxPlace, Hi: 17 * api.MaxPlace}, api.OK)
	a, e = vehicle.Mass(v, 0, ints(1, 1<<30))
	isSpan(t, "Mass", a, e, api.Span{Lo: 16 * api.MaxPlace, Hi: 17*api.MaxPlace - api.One}, api.OK)
	all := api.Span{Lo: 1 << 62, Hi: 1 << 62}
	a, e = vehicle.Thrust(v, 7, ints(1, 1))
	isSpan(t, "Thrust", a, e, all, api.OK)
	a, e = vehicle.Flow(v, 0, api.Span{Lo: 1, Hi: api.One - 1})
	isSpan(t, "Flow", a, e, api.Span{Lo: 1 << 30, Hi: 1<<62 - 1<<30}, api.OK)
	a, e = vehicle.Burn(v, 0)
	isSpan(t, "Burn", a, e, api.Span{Lo: 4194304, Hi: 4194304}, api.OK)
}

func TestMassAndTotal(t *testing.T) {
	r := random()
	for range 1000 {
		v := randomVehicle(r)
		for gone := range v.Stages {
			w, _ := vehicle.Without(v, gone)
			a, e := vehicle.Mass(v, gone, api.Span{})
			b, f := vehicle.Total(w)
			if a != b || e != api.OK || f != api.OK {
				t.Fatalf("Mass %v, error %d; Total %v, error %d", a, e, b, f)
			}
			lo, hi := v.Payload.Lo, v.Payload.Hi
			for _, s := range v.Stages[gone:] {
				lo, hi = lo+s.Dry.Lo+s.Prop.Lo, hi+s.Dry.Hi+s.Prop.Hi
			}
			isSpan(t, "Mass", a, e, api.Span{Lo: lo, Hi: hi}, api.OK)
		}
	}
}

func TestThrustAndFlow(t *testing.T) {
	half := api.One / 2
	for _, c := range []struct {
		stage        int
		level        api.Span
		thrust, flow api.Span
		e            api.Errno
	}{
		{0, ints(1, 1), api.Span{Lo: 6*api.One + 64, Hi: 8*api.One + 192}, ints(18, 20), api.OK},
		{0, api.Span{Lo: half, Hi: api.One}, api.Span{Lo: 3*api.One + 32, Hi: 8*api.One + 192}, ints(9, 20), api.OK},
		{0, api.Span{Lo: half, Hi: half}, api.Span{Lo: 3*api.One + 32, Hi: 4*api.One + 96}, ints(9, 10), api.OK},
		{0, api.Span{Lo: half + 1, Hi: half + 1}, api.Span{Lo: 3*api.One + 38, Hi: 4*api.One + 105}, api.Span{Lo: 9*api.One + 18, Hi: 10*api.One + 20}, api.OK},
		{0, api.Span{}, api.Span{}, api.Span{}, api.OK},
		{0, api.Span{Lo: half - 1, Hi: api.One}, api.Span{}, api.Span{}, api.ErrRange},
		{0, api.Span{Lo: 0, Hi: api.One}, api.Span{}, api.Span{}, api.ErrRange},
		{0, api.Span{Lo: 0, Hi: 1}, api.Span{}, api.Span{}, api.ErrRange},
		{0, api.Span{Lo: half, Hi: api.One + 1}, api.Span{}, api.Span{}, api.ErrRange},
		{0, api.Span{Lo: api.One, Hi: half}, api.Span{}, api.Span{}, api.ErrRange},
		{0, api.Span{Lo: -1, Hi: 0}, api.Span{}, api.Span{}, api.ErrRange},
		{0, api.Span{Lo: -1 << 63, Hi: 0}, api.Span{}, api.Span{}, api.ErrRange},
		{0, api.Span{Lo: 1, Hi: 0}, api.Span{}, api.Span{}, api.ErrRange},
		{0, api.Span{Lo: 0, Hi: -1}, api.Span{}, api.Span{}, api.ErrRange},
		{1, ints(1, 1), ints(1, 1), ints(2, 3), api.OK},
		{1, api.Span{Lo: api.One - 1, Hi: api.One}, api.Span{}, api.Span{}, api.ErrRange},
		{1, ints(0, 0), api.Span{}, api.Span{}, api.OK},
		{2, ints(1, 1), api.Span{}, api.Span{}, api.ErrNone},
		{-1, ints(1, 1), api.Span{}, api.Span{}, api.ErrNone},
		{2, ints(2, 1), api.Span{}, api.Span{}, api.ErrNone},
		{-1 << 63, ints(2, 1), api.Span{}, api.Span{}, api.ErrNone},
	} {
		a, e := vehicle.Thrust(sample(), c.stage, c.level)
		isSpan(t, "Thrust", a, e, c.thrust, c.e)
		a, e = vehicle.Flow(sample(), c.stage, c.level)
		isSpan(t, "Flow", a, e, c.flow, c.e)
	}
	v := sample()
	v.Stages[1].Engines = nil
	for _, level := range []api.Span{{}, {Lo: 0, Hi: 1}, ints(0, 1), ints(1, 1)} {
		a, e := vehicle.Thrust(v, 1, level)
		isSpan(t, "Thrust without engines", a, e, api.Span{}, api.OK)
		a, e = vehicle.Flow(v, 1, level)
		isSpan(t, "Flow without engines", a, e, api.Span{}, api.OK)
	}
	a, e := vehicle.Thrust(v, 1, ints(1, 2))
	isSpan(t, "Thrust without engines", a, e, api.Span{}, api.ErrRange)
}

func TestBurn(t *testing.T) {
	few := func(prop, flow api.Span, count int) api.Vehicle {
		v := sample()
		v.Stages[0].Prop, v.Stages[0].Engines[0].Flow, v.Stages[0].Engines[0].Count = prop, flow, count
		v.Stages[0].Engines = v.Stages[0].Engines[:1]
		return v
	}
	for _, c := range []struct {
		v     api.Vehicle
		stage int
		want  api.Span
		e     api.Errno
	}{
		{few(ints(10, 12), ints(1, 2), 2), 0, api.Span{Lo: 5 * api.One / 2, Hi: 6 * api.One}, api.OK},
		{few(ints(0, 0), ints(1, 2), 2), 0, api.Span{}, api.OK},
		{few(ints(1, 1), ints(1, 1), 3), 0, api.Span{Lo: 1431655765, Hi: 1431655766}, api.OK},
		{few(ints(0, 1), api.Span{Lo: 1, Hi: 1}, 1), 0, api.Span{}, api.ErrRange},
		{few(api.Span{Lo: 0, Hi: 1<<31 - 1}, api.Span{Lo: 1, Hi: 1}, 1), 0, ints(0, 1<<31-1), api.OK},
		{few(api.Span{Lo: 0, Hi: 1 << 31}, api.Span{Lo: 1, Hi: 1}, 1), 0, api.Span{}, api.ErrRange},
		{few(api.Span{Lo: 0, Hi: 1 << 31}, api.Span{Lo: 1, Hi: 1}, 2), 0, ints(0, 1<<30), api.OK},
		{few(api.Span{Lo: 1, Hi: 1}, ints(1<<20, 1<<20), 64), 0, api.Span{Lo: 0, Hi: 1}, api.OK},
		{sample(), 0, api.Span{Lo: api.One / 2, Hi: 2863311531}, api.OK},
		{sample(), 1, api.Span{}, api.OK},
		{sample(), 2, api.Span{}, api.ErrNone},
		{sample(), -1, api.Span{}, api.ErrNone},
	} {
		a, e := vehicle.Burn(c.v, c.stage)
		isSpan(t, "Burn", a, e, c.want, c.e)
	}
	v := sample()
	v.Stages[0].Engines = nil
	a, e := vehicle.Burn(v, 0)
	isSpan(t, "Burn without engines", a, e, api.Span{}, api.ErrState)
	a, e = vehicle.Burn(v, 2)
	isSpan(t, "Burn of no stage", a, e, api.Span{}, api.ErrNone)
}

// part returns a number in a span.
func part(r *rand.Rand, a api.Span) *big.Rat {
	n := a.Lo + api.Num(r.Int64N(int64(a.Hi-a.Lo)+1))
	switch r.IntN(4) {
	case 0:
		n = a.Lo
	case 1:
		n = a.Hi
	}
	return ofNum(n)
}

// has reports whether a span contains an exact number.
func has(a api.Span, x *big.Rat) bool {
	return ofNum(a.Lo).Cmp(x) <= 0 && x.Cmp(ofNum(a.Hi)) <= 0
}

// TestBoundsAreTight holds thrusts, flows and times against exact numbers: the least ones and the greatest ones, and others within the bounds.
func TestBoundsAreTight(t *testing.T) {
	r := random()
	burns := 0
	for range 1500 {
		v := randomVehicle(r)
		i := r.IntN(len(v.Stages))
		s := v.Stages[i]
		level := api.Span{Lo: api.Num(r.Int64N(1<<32 + 1)), Hi: api.One}
		for _, x := range s.Engines {
			level.Lo = max(level.Lo, x.Least)
		}
		level.Hi -= api.Num(r.Int64N(int64(api.One-level.Lo) + 1))
		sum := func(of func(x api.Engine) *big.Rat) *big.Rat {
			all := new(big.Rat)
			for _, x := range s.Engines {
				all.Add(all, new(big.Rat).Mul(big.NewRat(int64(x.Count), 1), of(x)))
			}
			return all
		}
		times := func(x, y *big.Rat) *big.Rat { return new(big.Rat).Mul(x, y) }

		thrust, e := vehicle.Thrust(v, i, level)
		want, f := roundedOut(times(ofNum(level.Lo), sum(func(x api.Engine) *big.Rat { return ofNum(x.Thrust.Lo) })), times(ofNum(level.Hi), sum(func(x api.Engine) *big.Rat { return ofNum(x.Thrust.Hi) })))
		isSpan(t, "Thrust", thrust, e, want, f)
		if x := times(part(r, level), sum(func(x api.Engine) *big.Rat { return part(r, x.Thrust) })); !has(thrust, x) {
			t.Errorf("Thrust %v does not contain %s", thrust, x)
		}
		leastFlow, mostFlow := sum(func(x api.Engine) *big.Rat { return ofNum(x.Flow.Lo) }), sum(func(x api.Engine) *big.Rat { return ofNum(x.Flow.Hi) })
		flow, e := vehicle.Flow(v, i, level)
		want, f = roundedOut(times(ofNum(level.Lo), leastFlow), times(ofNum(level.Hi), mostFlow))
		isSpan(t, "Flow", flow, e, want, f)

		mass, e := vehicle.Mass(v, i, api.Span{Lo: s.Prop.Lo / 2, Hi: s.Prop.Lo})
		truth := part(r, v.Payload)
		for k, u := range v.Stages[i:] {
			truth.Add(truth, part(r, u.Dry))
			prop := part(r, u.Prop)
			if k == 0 {
				prop.Sub(prop, part(r, api.Span{Lo: s.Prop.Lo / 2, Hi: s.Prop.Lo}))
			}
			truth.Add(truth, prop)
		}
		if e != api.OK || !has(mass, truth) {
			t.Errorf("Mass %v, error %d, does not contain %s", mass, e, truth)
		}
		if len(s.Engines) == 0 {
			continue
		}
		burn, e := vehicle.Burn(v, i)
		want, f = roundedOut(new(big.Rat).Quo(ofNum(s.Prop.Lo), mostFlow), new(big.Rat).Quo(ofNum(s.Prop.Hi), leastFlow))
		isSpan(t, "Burn", burn, e, want, f)
		if e == api.OK {
			burns++
			if x := new(big.Rat).Quo(part(r, s.Prop), sum(func(x api.Engine) *big.Rat { return part(r, x.Flow) })); !has(burn, x) {
				t.Errorf("Burn %v does not contain %s", burn, x)
			}
		}
	}
	if burns < 300 {
		t.Errorf("only %d times were looked at", burns)
	}
}

func TestDrag(t *testing.T) {
	for _, c := range []struct {
		speed, want api.Span
		e           api.Errno
	}{
		{ints(0, 0), ints(1, 1), api.OK},
		{ints(1, 1), ints(2, 3), api.OK},
		{api.Span{Lo: api.One / 2, Hi: api.One / 2}, api.Span{Lo: 3 * api.One / 2, Hi: 2 * api.One}, api.OK},
		{ints(0, 5), ints(1, 3), api.OK},
		{ints(-7, -7), ints(1, 1), api.OK},
		{ints(2, 1), api.Span{}, api.ErrArg},
		{api.Span{Lo: -1 << 63, Hi: 0}, api.Span{}, api.ErrArg},
	} {
		a, e := vehicle.Drag(sample(), c.speed)
		isSpan(t, "Drag", a, e, c.want, c.e)
	}
	r := random()
	for range 1000 {
		v := randomVehicle(r)
		speed := randomAmount(r, 0)
		a, e := vehicle.Drag(v, speed)
		want, f := span.Look(v.Drag, speed)
		isSpan(t, "Drag", a, e, want, f)
	}
}
