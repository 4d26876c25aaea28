package vehicle_test

// The rules that hold for all functions, and the chapter's examples.

import (
	"math/rand/v2"
	"testing"

	"ullage/api"
	"ullage/vehicle"
)

// TestArgumentsAreOnlyRead checks that no function changes a vehicle, and that no result is kept.
func TestArgumentsAreOnlyRead(t *testing.T) {
	v := sample()
	for range 2 {
		vehicle.Check(v)
		vehicle.Print(v)
		vehicle.Total(v)
		vehicle.Mass(v, 0, ints(1, 2))
		vehicle.Thrust(v, 0, ints(1, 1))
		vehicle.Flow(v, 0, ints(1, 1))
		vehicle.Burn(v, 0)
		vehicle.Drag(v, ints(0, 1))
		vehicle.Without(v, 1)
		if !sameVehicle(v, sample()) {
			t.Fatalf("the vehicle has changed: %v", v)
		}
	}
	text := head + low + top + engineA + engineB + engineC + rest
	w, _, _ := vehicle.Parse(text)
	w.Stages[0].Engines[0].Count, w.Stages[0].Name, w.Drag[0].At = 9, "x", 9
	if w, _, _ := vehicle.Parse(text); !sameVehicle(w, sample()) {
		t.Errorf("Parse, after a result was changed: %v", w)
	}
	// The engines of one stage do not stand behind those of another one in the same memory.
	w, _, _ = vehicle.Parse(text)
	_ = append(w.Stages[0].Engines, api.Engine{Name: "x"})
	_ = append(w.Stages[:1], api.Stage{})
	w, _, _ = vehicle.Parse(text)
	if !sameVehicle(w, sample()) {
		t.Errorf("Parse, after results were lengthened: %v", w)
	}
}

// changed returns a text in which some bytes are others, or gone, or there again.
func changed(r *rand.Rand, s string) string {
	const bytes = "{};:=+-*/().. \n0159akmst#\x00\xff"
	for range r.IntN(4) + 1 {
		at := r.IntN(len(s))
		switch r.IntN(4) {
		case 0:
			s = s[:at] + string(bytes[r.IntN(len(bytes))]) + s[at:]
		case 1:
			s = s[:at] + s[min(len(s), at+r.IntN(5)):]
		case 2:
			s = s[:at] + string(bytes[r.IntN(len(bytes))]) + s[at+1:]
		case 3:
			end := min(len(s), at+r.IntN(30))
			s = s[:end] + s[at:]
		}
		if s == "" {
			return "vehicle"
		}
	}
	return s
}

// TestAnyTexts checks that all texts are read to an end: to a vehicle that is valid, or to a fault in the text.
func TestAnyTexts(t *testing.T) {
	r := random()
	text := head + "let x = 2 * (1 t - 3 kg) / -2;" + low + top + engineA + engineB + engineC + rest
	found := map[api.Errno]int{}
	for range 40000 {
		s := changed(r, text)
		v, at, e := vehicle.Parse(s)
		found[e]++
		_, _, f := vehicle.Check(v)
		switch {
		case e == api.OK && (at != 0 || f != api.OK):
			t.Fatalf("Parse of %q: %v, at %d", s, v, at)
		case e != api.OK && (at < 0 || at > len(s) || !sameVehicle(v, api.Vehicle{})):
			t.Fatalf("Parse of %q: %v, at %d, error %d", s, v, at, e)
		}
		w, again, f := vehicle.Parse(s)
		if !sameVehicle(v, w) || at != again || e != f {
			t.Fatalf("Parse of %q, again: %v, at %d, error %d", s, w, again, f)
		}
		// What stands behind a fault is not read, but for the end.
		if e == api.ErrForm || e == api.ErrNone || e == api.ErrThere {
			if _, again, f := vehicle.Parse(s + " #"); at < len(s) && (again != at || f != e) {
				t.Fatalf("Parse of %q: at %d, error %d; with # behind it: at %d, error %d", s, at, e, again, f)
			}
		}
	}
	for _, e := range []api.Errno{api.OK, api.ErrRange, api.ErrForm, api.ErrNone, api.ErrThere, api.ErrUnit, api.ErrOrder} {
		if found[e] < 10 {
			t.Errorf("the error %d was found %d times", e, found[e])
		}
	}
}

func TestExamples(t *testing.T) {
	for _, c := range []struct {
		s, want string
		at      int
		e       api.Errno
	}{
		{"1.5 km / ms", "1500 km s^-1", 0, api.OK},
		{"2 t + 500 kg", "5/2 t", 0, api.OK},
		{"2 t + 3 s", "", 4, api.ErrUnit},
		{"x + 3", "", 0, api.ErrNone},
		{"3 x", "", 2, api.ErrForm},
		{"3 +", "", 3, api.ErrForm},
		{"1 km 2", "", 5, api.ErrForm},
	} {
		q, at, e := vehicle.Read(c.s)
		if e == api.OK && vehicle.Show(q) != c.want || at != c.at || e != c.e {
			t.Errorf("Read of %q: %v, at %d, error %d", c.s, q, at, e)
		}
	}
	third := plain(1, 3)
	a, e := vehicle.Lower(third)
	b, f := vehicle.Upper(third)
	if a != 1431655765 || b != 1431655766 || e != api.OK || f != api.OK {
		t.Errorf("Lower and Upper of 1/3: %d, %d", a, b)
	}
	if s := vehicle.Show(api.Quantity{Num: -3, Den: 4, Km: 1, S: -2}); s != "-3/4 km s^-2" {
		t.Errorf("Show: %q", s)
	}
	v, _, e := vehicle.Parse(head + low +
		"engine a in low { count = 2; thrust = 1 MN; flow = 1 t/s .. 2 t/s; least = 0; start = 0 s; stop = 0 s; }" + drag + limits + "payload = 1 t;")
	if e != api.OK {
		t.Fatal(e)
	}
	x, e := vehicle.Burn(v, 0)
	isSpan(t, "Burn", x, e, api.Span{Lo: 5 * api.One / 2, Hi: 6 * api.One}, api.OK)
	x, e = vehicle.Mass(v, 0, ints(11, 11))
	isSpan(t, "Mass", x, e, ints(4, 5), api.OK)
}
