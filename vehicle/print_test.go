package vehicle_test

// P2.7 (Print) and P2.13.

import (
	"math/big"
	"strconv"
	"strings"
	"testing"

	"ullage/api"
	"ullage/vehicle"
)

func TestPrint(t *testing.T) {
	want := "vehicle one;\n" +
		"stage low { dry = 3 t .. 3 t; prop = 10 t .. 12 t; }\n" +
		"engine a in low { count = 2; thrust = 3 MN .. 4 MN; flow = 1 t / s .. 2 t / s; least = 1 / 2; start = 1 s .. 2 s; stop = 0 s .. 1 s; }\n" +
		"engine b in low { count = 64; thrust = 1 MN / 4294967296 .. 3 MN / 4294967296; flow = 1 t / s / 4 .. 1 t / s / 4; least = 1 / 4; start = 0 s .. 0 s; stop = 0 s .. 0 s; }\n" +
		"stage top { dry = 1 t .. 2 t; prop = 0 t .. 0 t; }\n" +
		"engine c in top { count = 1; thrust = 1 MN .. 1 MN; flow = 2 t / s .. 3 t / s; least = 1; start = 5 s .. 5 s; stop = 6 s .. 7 s; }\n" +
		"drag { 0 km / s : 1 km * km .. 1 km * km; 1 km / s : 2 km * km .. 3 km * km; }\n" +
		"limits { axial = 1 km / s / s / 16; bending = 35000 Pa; }\n" +
		"payload = 1 t / 2 .. 3 t / 2;\n"
	if got := vehicle.Print(sample()); got != want {
		t.Errorf("Print: %q", got)
	}
	v := sample()
	v.Stages = v.Stages[:1]
	v.Stages[0].Engines = nil
	v.Stages[0].Dry = api.Span{Lo: 1, Hi: api.MaxPlace}
	v.Drag = []api.Point{{At: 3 * api.One / 8, Value: api.Span{Lo: api.One - 1, Hi: api.One + 1}}}
	v.Axial, v.Bending = api.One+api.One/1024, 1
	want = "vehicle one;\n" +
		"stage low { dry = 1 t / 4294967296 .. 1048576 t; prop = 10 t .. 12 t; }\n" +
		"drag { 3 km / s / 8 : 4294967295 km * km / 4294967296 .. 4294967297 km * km / 4294967296; }\n" +
		"limits { axial = 1025 km / s / s / 1024; bending = 1 Pa / 4294967296; }\n" +
		"payload = 1 t / 2 .. 3 t / 2;\n"
	if got := vehicle.Print(v); got != want {
		t.Errorf("Print: %q", got)
	}
}

// wantNum returns a number as Print writes it.
func wantNum(n api.Num, unit string) string {
	x := ofNum(n)
	s := x.Num().String() + unit
	if x.Denom().Cmp(big.NewInt(1)) != 0 {
		s += " / " + x.Denom().String()
	}
	return s
}

// wantText returns a vehicle as Print writes it.
func wantText(v api.Vehicle) string {
	bounds := func(a api.Span, unit string) string { return wantNum(a.Lo, unit) + " .. " + wantNum(a.Hi, unit) }
	lines := []string{"vehicle " + v.Name + ";"}
	for _, s := range v.Stages {
		lines = append(lines, "stage "+s.Name+" { dry = "+bounds(s.Dry, " t")+"; prop = "+bounds(s.Prop, " t")+"; }")
		for _, x := range s.Engines {
			fields := []string{
				"count = " + strconv.Itoa(x.Count), "thrust = " + bounds(x.Thrust, " MN"), "flow = " + bounds(x.Flow, " t / s"),
				"least = " + wantNum(x.Least, ""), "start = " + bounds(x.Start, " s"), "stop = " + bounds(x.Stop, " s"),
			}
			lines = append(lines, "engine "+x.Name+" in "+s.Name+" { "+strings.Join(fields, "; ")+"; }")
		}
	}
	points := ""
	for _, p := range v.Drag {
		points += " " + wantNum(p.At, " km / s") + " : " + bounds(p.Value, " km * km") + ";"
	}
	lines = append(lines, "drag {"+points+" }")
	lines = append(lines, "limits { axial = "+wantNum(v.Axial, " km / s / s")+"; bending = "+wantNum(v.Bending, " Pa")+"; }")
	return strings.Join(append(lines, "payload = "+bounds(v.Payload, " t")+";"), "\n") + "\n"
}

func TestPrintAndParse(t *testing.T) {
	r := random()
	for range 2000 {
		v := randomVehicle(r)
		s := vehicle.Print(v)
		if want := wantText(v); s != want {
			t.Fatalf("Print: %q, want %q", s, want)
		}
		if w, at, e := vehicle.Parse(s); !sameVehicle(w, v) || at != 0 || e != api.OK {
			t.Fatalf("Parse of %q: %v, at %d, error %d", s, w, at, e)
		}
	}
}

// TestPrintOfTheGreatestOne checks a vehicle whose text is too long to be read again.
func TestPrintOfTheGreatestOne(t *testing.T) {
	name := strings.Repeat("x", 30)
	odd := api.Span{Lo: api.MaxPlace - 3, Hi: api.MaxPlace - 1}
	v := api.Vehicle{Name: name, Payload: odd, Drag: []api.Point{{Value: odd}}, Axial: 1, Bending: 1}
	for i := range 8 {
		s := api.Stage{Name: name + "s" + strconv.Itoa(i), Dry: odd, Prop: odd}
		for k := range 16 {
			s.Engines = append(s.Engines, api.Engine{Name: name[:26] + "e" + strconv.Itoa(100*i+k), Count: 64, Thrust: odd, Flow: odd, Least: 1, Start: odd, Stop: odd})
		}
		v.Stages = append(v.Stages, s)
	}
	s := vehicle.Print(v)
	if s != wantText(v) || len(s) <= api.MaxText {
		t.Errorf("Print: %d bytes", len(s))
	}
	if _, at, e := vehicle.Parse(s); at != 0 || e != api.ErrLong {
		t.Errorf("Parse: at %d, error %d", at, e)
	}
}
