package vehicle_test

// P2.8 (Check) and P2.12 (Without), and that the other functions take only valid vehicles.

import (
	"strconv"
	"strings"
	"testing"

	"ullage/api"
	"ullage/vehicle"
)

// harm is a change of sample that is a fault.
type harm struct {
	name        string
	do          func(v *api.Vehicle)
	part, index int
	e           api.Errno
}

func notBounds(least api.Num) []api.Span {
	l := []api.Span{{Lo: -1, Hi: 1}, {Lo: 2, Hi: 1}, {Lo: 1, Hi: api.MaxPlace + 1}, {Lo: api.MaxPlace + 1, Hi: api.MaxPlace + 1}, {Lo: -1 << 63, Hi: 1}, {Lo: 1, Hi: api.MostNum}, {Lo: -2, Hi: -1}, {Lo: api.MostNum, Hi: -1 << 63}}
	if least > 0 {
		l = append(l, api.Span{Lo: least - 1, Hi: api.One}, api.Span{})
	}
	return l
}

func notNames() []string {
	l := []string{"", "1", "1a", "a-", "-a", "-", "a--", "a b", " a", "a ", "a\n", "a_b", "a.b", "\u00e4", "a\u00e4", "a\x00", strings.Repeat("a", 33), strings.Repeat("a", 1<<20), "km", "kPa", "h"}
	return append(l, reserved()...)
}

// harms returns faults in the order in which they are found. Those with the same place in this order are next to each other.
func harms() [][]harm {
	var out [][]harm
	add := func(l ...harm) { out = append(out, l) }
	bounds := func(name string, least api.Num, index int, of func(v *api.Vehicle) *api.Span) {
		var l []harm
		for _, bad := range notBounds(least) {
			l = append(l, harm{name, func(v *api.Vehicle) { *of(v) = bad }, 1, index, api.ErrRange})
		}
		add(l...)
	}
	word := func(name string, part, index int, of func(v *api.Vehicle) *string) {
		var l []harm
		for _, bad := range notNames() {
			l = append(l, harm{name + " " + bad[:min(len(bad), 40)], func(v *api.Vehicle) { *of(v) = bad }, part, index, api.ErrArg})
		}
		add(l...)
	}
	word("vehicle", 0, 0, func(v *api.Vehicle) *string { return &v.Name })
	add(harm{"nine stages", func(v *api.Vehicle) {
		for i := len(v.Stages); i < 9; i++ {
			v.Stages = append(v.Stages, api.Stage{Name: "more" + strconv.Itoa(i), Dry: ints(1, 1)})
		}
	}, 0, 0, api.ErrLong})
	word("stage", 1, 0, func(v *api.Vehicle) *string { return &v.Stages[0].Name })
	bounds("dry", 1, 0, func(v *api.Vehicle) *api.Span { return &v.Stages[0].Dry })
	bounds("prop", 0, 0, func(v *api.Vehicle) *api.Span { return &v.Stages[0].Prop })
	add(harm{"17 engines", func(v *api.Vehicle) {
		for i := len(v.Stages[0].Engines); i < 17; i++ {
			x := v.Stages[0].Engines[1]
			x.Name = "more" + strconv.Itoa(i)
			v.Stages[0].Engines = append(v.Stages[0].Engines, x)
		}
	}, 1, 0, api.ErrLong})
	word("engine", 1, 0, func(v *api.Vehicle) *string { return &v.Stages[0].Engines[0].Name })
	var counts, leasts []harm
	for _, n := range []int{0, -1, 65, 1<<63 - 1, -1 << 63} {
		counts = append(counts, harm{"count", func(v *api.Vehicle) { v.Stages[0].Engines[0].Count = n }, 1, 0, api.ErrRange})
	}
	for _, n := range []api.Num{-1, api.One + 1, api.MostNum, -1 << 63} {
		leasts = append(leasts, harm{"least", func(v *api.Vehicle) { v.Stages[0].Engines[0].Least = n }, 1, 0, api.ErrRange})
	}
	add(counts...)
	bounds("thrust", 1, 0, func(v *api.Vehicle) *api.Span { return &v.Stages[0].Engines[0].Thrust })
	bounds("flow", 1, 0, func(v *api.Vehicle) *api.Span { return &v.Stages[0].Engines[0].Flow })
	add(leasts...)
	bounds("start", 0, 0, func(v *api.Vehicle) *api.Span { return &v.Stages[0].Engines[0].Start })
	bounds("stop", 0, 0, func(v *api.Vehicle) *api.Span { return &v.Stages[0].Engines[0].Stop })
	add(harm{"engine again", func(v *api.Vehicle) { v.Stages[0].Engines[1].Name = "a" }, 1, 0, api.ErrThere})
	bounds("thrust of the second one", 1, 0, func(v *api.Vehicle) *api.Span { return &v.Stages[0].Engines[1].Thrust })
	add(harm{"stage again", func(v *api.Vehicle) { v.Stages[1].Name = "low" }, 1, 1, api.ErrThere})
	bounds("dry of the second one", 1, 1, func(v *api.Vehicle) *api.Span { return &v.Stages[1].Dry })
	add(harm{"engine of another stage again", func(v *api.Vehicle) { v.Stages[1].Engines[0].Name = "b" }, 1, 1, api.ErrThere})
	bounds("flow of the second one", 1, 1, func(v *api.Vehicle) *api.Span { return &v.Stages[1].Engines[0].Flow })
	var payloads, drags, limits []harm
	for _, bad := range notBounds(0) {
		payloads = append(payloads, harm{"payload", func(v *api.Vehicle) { v.Payload = bad }, 2, 0, api.ErrRange})
	}
	for _, l := range badDrags() {
		drags = append(drags, harm{"drag", func(v *api.Vehicle) { v.Drag = l }, 3, 0, api.ErrArg})
	}
	for _, n := range []api.Num{0, -1, api.MaxPlace + 1, api.MostNum, -1 << 63} {
		limits = append(limits, harm{"axial", func(v *api.Vehicle) { v.Axial = n }, 4, 0, api.ErrRange}, harm{"bending", func(v *api.Vehicle) { v.Bending = n }, 4, 0, api.ErrRange})
	}
	add(payloads...)
	add(drags...)
	add(limits...)
	return out
}

// badDrags returns what is no drag table.
func badDrags() [][]api.Point {
	var long []api.Point
	for i := range 65 {
		long = append(long, api.Point{At: api.Num(i)})
	}
	good := api.Point{At: 5, Value: ints(1, 1)}
	l := [][]api.Point{
		nil, {}, long, {good, good}, {good, {At: 4}}, {{At: -1}}, {{At: -1}, good}, {good, {At: api.MaxPlace + 1}}, {{At: api.MaxPlace + 1}}, {{At: -1 << 63}}, {{At: api.MostNum}},
	}
	for _, bad := range notBounds(0) {
		l = append(l, []api.Point{{Value: bad}}, []api.Point{{At: 1}, {At: 5, Value: bad}})
	}
	return l
}

// manyHarmed returns vehicles that are not valid, each for another reason.
func manyHarmed() []api.Vehicle {
	none := sample()
	none.Stages = nil
	l := []api.Vehicle{{}, none}
	for _, same := range harms() {
		for _, h := range same {
			v := copied(sample())
			h.do(&v)
			l = append(l, v)
		}
	}
	return l
}

func TestCheck(t *testing.T) {
	all := harms()
	for i, same := range all {
		for _, h := range same {
			v := copied(sample())
			h.do(&v)
			if part, index, e := vehicle.Check(v); part != h.part || index != h.index || e != h.e {
				t.Errorf("Check, %s: part %d, index %d, error %d; want %d, %d, %d", h.name, part, index, e, h.part, h.index, h.e)
			}
		}
		// Of two faults the first one is found, whichever was made first.
		for k := range all {
			one, other := all[min(i, k)][0], all[max(i, k)][0]
			v := copied(sample())
			if i < k {
				one.do(&v)
				other.do(&v)
			} else {
				other.do(&v)
				one.do(&v)
			}
			if part, index, e := vehicle.Check(v); part != one.part || index != one.index || e != one.e {
				t.Errorf("Check, %s and %s: part %d, index %d, error %d; want %d, %d, %d", one.name, other.name, part, index, e, one.part, one.index, one.e)
			}
		}
	}
	none := sample()
	none.Stages, none.Payload, none.Drag = nil, ints(-1, 1), nil
	for range 2 {
		if part, index, e := vehicle.Check(none); part != 0 || index != 0 || e != api.ErrArg {
			t.Errorf("Check without stages: part %d, index %d, error %d", part, index, e)
		}
		none.Stages = []api.Stage{}
	}
}

// TestCheckOfWhatIsValid checks vehicles at the limits.
func TestCheckOfWhatIsValid(t *testing.T) {
	for i, do := range []func(v *api.Vehicle){
		func(v *api.Vehicle) {},
		func(v *api.Vehicle) { v.Name = strings.Repeat("a", 32) },
		func(v *api.Vehicle) { v.Name = "Z-9--a" },
		func(v *api.Vehicle) { v.Name = "Stage" },
		func(v *api.Vehicle) { v.Name = "low" },
		func(v *api.Vehicle) { v.Stages[0].Name = "a" },
		func(v *api.Vehicle) { v.Stages[1].Engines[0].Name = "low" },
		func(v *api.Vehicle) { v.Stages = v.Stages[:1] },
		func(v *api.Vehicle) { v.Stages[0].Engines = nil },
		func(v *api.Vehicle) { v.Stages[0].Engines, v.Stages[1].Engines = []api.Engine{}, nil },
		func(v *api.Vehicle) { v.Stages[0].Dry = api.Span{Lo: 1, Hi: 1} },
		func(v *api.Vehicle) { v.Stages[0].Dry = api.Span{Lo: api.MaxPlace, Hi: api.MaxPlace} },
		func(v *api.Vehicle) { v.Stages[0].Prop = api.Span{Lo: 0, Hi: api.MaxPlace} },
		func(v *api.Vehicle) { v.Stages[0].Prop = api.Span{} },
		func(v *api.Vehicle) { v.Stages[0].Engines[0].Count = 1 },
		func(v *api.Vehicle) { v.Stages[0].Engines[0].Count = 64 },
		func(v *api.Vehicle) { v.Stages[0].Engines[0].Thrust = api.Span{Lo: 1, Hi: api.MaxPlace} },
		func(v *api.Vehicle) { v.Stages[0].Engines[0].Flow = api.Span{Lo: api.MaxPlace, Hi: api.MaxPlace} },
		func(v *api.Vehicle) { v.Stages[0].Engines[0].Least = 0 },
		func(v *api.Vehicle) { v.Stages[0].Engines[0].Least = api.One },
		func(v *api.Vehicle) { v.Stages[0].Engines[0].Start = api.Span{Lo: 0, Hi: api.MaxPlace} },
		func(v *api.Vehicle) { v.Stages[0].Engines[0].Stop = api.Span{} },
		func(v *api.Vehicle) { v.Payload = api.Span{} },
		func(v *api.Vehicle) { v.Payload = api.Span{Lo: api.MaxPlace, Hi: api.MaxPlace} },
		func(v *api.Vehicle) { v.Drag = []api.Point{{At: api.MaxPlace, Value: api.Span{Hi: api.MaxPlace}}} },
		func(v *api.Vehicle) { v.Drag = []api.Point{{}} },
		func(v *api.Vehicle) {
			v.Drag = nil
			for i := range 64 {
				v.Drag = append(v.Drag, api.Point{At: api.Num(i)})
			}
		},
		func(v *api.Vehicle) { v.Axial, v.Bending = 1, api.MaxPlace },
		func(v *api.Vehicle) { v.Axial, v.Bending = api.MaxPlace, 1 },
		func(v *api.Vehicle) {
			for i := 2; i < 8; i++ {
				v.Stages = append(v.Stages, api.Stage{Name: "more" + strconv.Itoa(i), Dry: ints(1, 1)})
			}
		},
		func(v *api.Vehicle) {
			for i := 2; i < 16; i++ {
				x := v.Stages[0].Engines[1]
				x.Name = "more" + strconv.Itoa(i)
				v.Stages[0].Engines = append(v.Stages[0].Engines, x)
			}
		},
	} {
		v := copied(sample())
		do(&v)
		if part, index, e := vehicle.Check(v); part != 0 || index != 0 || e != api.OK {
			t.Errorf("Check of the vehicle %d: part %d, index %d, error %d", i, part, index, e)
		}
	}
}

func TestWithout(t *testing.T) {
	r := random()
	for range 200 {
		v := randomVehicle(r)
		kept := copied(v)
		for n := range v.Stages {
			w, e := vehicle.Without(v, n)
			want := copied(v)
			want.Stages = want.Stages[n:]
			if !sameVehicle(w, want) || e != api.OK {
				t.Fatalf("Without %d: %v, error %d", n, w, e)
			}
			if _, _, e := vehicle.Check(w); e != api.OK {
				t.Fatalf("Check without %d: error %d", n, e)
			}
			// The result shares no memory with the vehicle.
			w.Drag[0].Value = ints(7, 7)
			w.Stages[0].Name = "other"
			for i := range w.Stages {
				for k := range w.Stages[i].Engines {
					w.Stages[i].Engines[k].Count = 77
				}
			}
			if !sameVehicle(v, kept) {
				t.Fatalf("Without %d: the vehicle has changed", n)
			}
		}
		for _, n := range []int{-1, len(v.Stages), 1<<63 - 1, -1 << 63} {
			if w, e := vehicle.Without(v, n); !sameVehicle(w, api.Vehicle{}) || e != api.ErrNone {
				t.Fatalf("Without %d: %v, error %d", n, w, e)
			}
		}
	}
}

// TestVehiclesThatAreNotValid checks that they are refused first.
func TestVehiclesThatAreNotValid(t *testing.T) {
	for _, v := range manyHarmed() {
		is := func(name string, a api.Span, e api.Errno) {
			t.Helper()
			isSpan(t, name, a, e, api.Span{}, api.ErrArg)
		}
		for _, stage := range []int{0, -1, 99} {
			a, e := vehicle.Mass(v, stage, ints(-1, -1))
			is("Mass", a, e)
			a, e = vehicle.Thrust(v, stage, ints(-1, -1))
			is("Thrust", a, e)
			a, e = vehicle.Flow(v, stage, ints(0, 2))
			is("Flow", a, e)
			a, e = vehicle.Burn(v, stage)
			is("Burn", a, e)
			if w, e := vehicle.Without(v, stage); !sameVehicle(w, api.Vehicle{}) || e != api.ErrArg {
				t.Errorf("Without: %v, error %d", w, e)
			}
		}
		a, e := vehicle.Total(v)
		is("Total", a, e)
		a, e = vehicle.Drag(v, ints(0, 1))
		is("Drag", a, e)
		if s := vehicle.Print(v); s != "" {
			t.Errorf("Print: %q", s)
		}
	}
}
