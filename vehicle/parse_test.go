package vehicle_test

// P2.6 (Parse).

import (
	"strconv"
	"strings"
	"testing"

	"ullage/api"
	"ullage/vehicle"
)

// The text of sample, by its parts.
const (
	head    = "vehicle one;\n"
	low     = "stage low { dry = 3 t; prop = 10 t .. 12 t; }\n"
	top     = "stage top { dry = 1.5 t +- 500 kg; prop = 0 t; }\n"
	engineA = "engine a in low { count = 2; thrust = 3 MN .. 4 MN; flow = 1.5 t/s +- 1 t/s/2; least = 1/2; start = 1 s .. 2 s; stop = 0 s .. 1 s; }\n"
	engineB = "engine b in low { count = 64; thrust = 1 MN / 4294967296 .. 3 MN / 4294967296; flow = 250 kg/s; least = 0.25; start = 0 h; stop = 0 min; }\n"
	engineC = "engine c in top { count = 1; thrust = 1 t * km / (s * s); flow = 2 t / s .. 3 t / s; least = 1; start = 5000 ms; stop = 0.1 min .. 7 s; }\n"
	drag    = "drag { 0 m/s : 1 km * km; 1 km/s : 2 km*km .. 3000 m * 1 km; }\n"
	limits  = "limits { axial = 62.5 m/s/s; bending = 35 kPa; }\n"
	payload = "payload = 1 t +- 500 kg;\n"
)

// rest is what a text needs behind its stages.
const rest = drag + limits + payload

func TestParse(t *testing.T) {
	short := head + low + rest
	alone := sample()
	alone.Stages = []api.Stage{{Name: "low", Dry: ints(3, 3), Prop: ints(10, 12)}}
	both := sample()
	both.Stages[0].Engines[0].Name, both.Stages[1].Name = "x", "x-y"
	both.Name, both.Stages[0].Name = "low", "one"
	for _, c := range []struct {
		s    string
		want api.Vehicle
	}{
		{head + low + top + engineA + engineB + engineC + rest, sample()},
		// The parts in other orders.
		{head + payload + limits + drag + low + engineA + top + engineC + engineB, sample()},
		{head + drag + low + engineA + limits + engineB + payload + top + engineC, sample()},
		{short, alone},
		{strings.ReplaceAll(short, "\n", ""), alone},
		{strings.TrimSpace(short), alone},
		{strings.ReplaceAll(short, " ", " \n  "), alone},
		{"\n\n " + short + "  \n", alone},
		// Names of lets, stages, engines and the vehicle may be the same.
		{"vehicle low; let low = 3 t; let x = low / 3; let one = 9; stage one { dry = low; prop = 10 * x .. x * (one + 3); }" +
			strings.ReplaceAll(top, " top", " x-y") + strings.ReplaceAll(strings.ReplaceAll(engineA+engineB, " low", " one"), " a ", " x ") + strings.ReplaceAll(engineC, " top", " x-y") + rest, both},
		// Lets that are made of lets, and some that are not used.
		{"vehicle one; let a = 1.5; let a-1 = a * 2 t; let A = -a-1; let b = 7 kPa * 1 h;" + "stage low { dry = -A; prop = 10 t .. 4 * a-1; }" + rest, alone},
	} {
		v, at, e := vehicle.Parse(c.s)
		if !sameVehicle(v, c.want) || at != 0 || e != api.OK {
			t.Errorf("Parse of %q: %v, at %d, error %d", c.s, v, at, e)
		}
	}
}

func TestParseBounds(t *testing.T) {
	for _, c := range []struct {
		s      string
		lo, hi api.Num
	}{
		{"2 t", 2 * api.One, 2 * api.One}, {"1 t / 3", 1431655765, 1431655766}, {"2 t .. 3 t", 2 * api.One, 3 * api.One}, {"2 t +- 1 t", api.One, 3 * api.One}, {"2 t..3 t", 2 * api.One, 3 * api.One}, {"2 t+-1 t", api.One, 3 * api.One},
		{"1 t / 3 .. 1 t / 3", 1431655765, 1431655766}, {"1 t / 3 .. 2 t / 3", 1431655765, 2863311531}, {"1 t +- 1 t / 3", 2863311530, 5726623062}, {"1 t / 3 +- 1 t / 3", 0, 2863311531}, {"1 t / 3 +- 0 t", 1431655765, 1431655766},
		{"3 t - 1 t .. 3 t + 1 t", 2 * api.One, 4 * api.One}, {"1 t + 1 t +- 1 kg * 500", 3 * api.One / 2, 5 * api.One / 2}, {"-(-2 t) .. 3 t", 2 * api.One, 3 * api.One},
		{"0 t .. 1048576 t", 0, api.MaxPlace},
		// Lo is not above Hi, though the first quantity is above the second one.
		{"0.00000000002 t .. 0.00000000001 t", 0, 1},
	} {
		s := head + low + drag + limits + "payload = " + c.s + ";"
		v, at, e := vehicle.Parse(s)
		if v.Payload != (api.Span{Lo: c.lo, Hi: c.hi}) || at != 0 || e != api.OK {
			t.Errorf("%s: %v, at %d, error %d", c.s, v.Payload, at, e)
		}
	}
}

func TestParseNumbers(t *testing.T) {
	// A count, a least, a place and the limits that are just within their ranges; all but the count are lower numbers.
	s := head + low + "engine a in low { count = 32 * 2; thrust = 1 N; flow = 1 kg/s; least = 1 / 3; start = 0 s; stop = 0 s; }" +
		"engine b in low { count = 3 / 3; thrust = 1 N; flow = 1 kg/s; least = 1; start = 0 s; stop = 0 s; }" +
		"drag { 1 km/s/3 : 0 m*m .. 1 m*m; 1048576 km/s : 1 km * 1 km * 1048576; } limits { axial = 1000 m / s / s / 3; bending = 1 Pa / 4294967295; }" + payload
	v, at, e := vehicle.Parse(s)
	if e != api.OK {
		t.Fatalf("at %d, error %d", at, e)
	}
	a, b := v.Stages[0].Engines[0], v.Stages[0].Engines[1]
	if a.Count != 64 || b.Count != 1 || a.Least != 1431655765 || b.Least != api.One {
		t.Errorf("counts %d and %d, leasts %d and %d", a.Count, b.Count, a.Least, b.Least)
	}
	if v.Drag[0].At != 1431655765 || v.Drag[1].At != api.MaxPlace || v.Drag[1].Value.Hi != api.MaxPlace || v.Axial != 1431655765 || v.Bending != 1 {
		t.Errorf("drag %v, axial %d, bending %d", v.Drag, v.Axial, v.Bending)
	}
}

// faultsOfVehicles returns texts with a ^ where the fault is.
func faultsOfVehicles() []struct {
	s string
	e api.Errno
} {
	block := func(s string) string { return head + low + "engine a in low {" + s }
	return []struct {
		s string
		e api.Errno
	}{
		// The head.
		{"^", api.ErrForm}, {"^one;", api.ErrForm}, {"^;", api.ErrForm}, {"^Vehicle one;", api.ErrForm}, {"vehicle^", api.ErrForm}, {"vehicle ^;", api.ErrForm}, {"vehicle ^1;", api.ErrForm}, {"vehicle ^km;", api.ErrForm}, {"vehicle a^", api.ErrForm}, {"vehicle a ^b;", api.ErrForm}, {"vehicle a ^= 1;", api.ErrForm}, {"vehicle ^#", api.ErrForm}, {"vehicle ^" + strings.Repeat("a", 33) + ";", api.ErrForm}, {"vehicle a^-;", api.ErrForm},
		// Between the parts.
		{"vehicle a; ^vehicle b;", api.ErrForm}, {"vehicle a; ^b", api.ErrForm}, {"vehicle a; ^;", api.ErrForm}, {"vehicle a; ^7", api.ErrForm}, {"vehicle a; ^in", api.ErrForm}, {"vehicle a; ^km", api.ErrForm}, {"vehicle a; ^dry", api.ErrForm}, {"vehicle a; ^#", api.ErrForm}, {head + payload + "^;", api.ErrForm}, {head + limits + "^;", api.ErrForm}, {head + low + "^}", api.ErrForm},
		// let
		{head + "let ^= 1;", api.ErrForm}, {head + "let ^1 = 1;", api.ErrForm}, {head + "let ^s = 1;", api.ErrForm}, {head + "let x ^1;", api.ErrForm}, {head + "let x ^;", api.ErrForm}, {head + "let x = ^;", api.ErrForm}, {head + "let x = 1 ^let", api.ErrForm}, {head + "let x = 1 ^.. 2;", api.ErrForm}, {head + "let x = 1 ^+- 2;", api.ErrForm}, {head + "let x = 1^", api.ErrForm}, {head + "let x = 1 ^y;", api.ErrForm},
		{head + "let x = ^x;", api.ErrNone}, {head + "let x = ^y; let y = 1;", api.ErrNone}, {head + "let x = 1; let y = x + ^z #", api.ErrNone}, {head + "let x = 1; let ^x #", api.ErrThere}, {head + "let x = 1; let ^x = x;", api.ErrThere}, {head + "let low = 1;" + low + "let y = low; let ^low = 1;", api.ErrThere}, {head + low + "let x = ^low;", api.ErrNone}, {head + low + engineA + "let x = ^a;", api.ErrNone}, {head + "let x = ^one;", api.ErrNone},
		{head + "let x = 1 t ^+ 1 s;", api.ErrUnit}, {head + "let x = 1 ^/ 0;", api.ErrArg}, {head + "let x = 1 / 0 ^#", api.ErrForm}, {head + "let x = 3000000000; let y = x ^* x;", api.ErrRange}, {head + "let x = ^1234567890123456789;", api.ErrRange},
		// stage
		{head + "stage ^{", api.ErrForm}, {head + "stage ^t {", api.ErrForm}, {head + "stage ^dry {", api.ErrForm}, {head + "stage x ^;", api.ErrForm}, {head + "stage x {^", api.ErrForm}, {head + "stage x { ^}", api.ErrForm}, {head + "stage x { ^prop = 1 t;", api.ErrForm}, {head + "stage x { dry ^: 1 t;", api.ErrForm}, {head + "stage x { dry = ^;", api.ErrForm}, {head + "stage x { dry = 1 t; ^dry = 1 t;", api.ErrForm}, {head + "stage x { dry = 1 t; ^}", api.ErrForm}, {head + "stage x { dry = 1 t; prop = 1 t ^}", api.ErrForm}, {head + "stage x { dry = 1 t; prop = 1 t; ^payload = 1 t; }", api.ErrForm}, {head + "stage x { dry = 1 t; prop = 1 t; ^;", api.ErrForm}, {head + "stage x { dry = 1 t; prop = 1 t;^", api.ErrForm},
		{head + low + "stage ^low #", api.ErrThere}, {head + low + top + low[:6] + "^" + low[6:], api.ErrThere}, {head + "stage x { dry = ^1 km; prop", api.ErrUnit}, {head + "stage x { dry = 1 t; prop = ^1; }", api.ErrUnit}, {head + "stage x { dry = 1 t; prop = ^1 t .. 1 s; }", api.ErrUnit},
		// engine
		{head + low + "engine ^in low", api.ErrForm}, {head + low + "engine low ^-", api.ErrForm}, {head + low + "engine a ^low", api.ErrForm}, {head + low + "engine a ^{", api.ErrForm}, {head + low + "engine a in ^{", api.ErrForm}, {head + low + "engine a in ^km", api.ErrForm}, {head + low + "engine a in low ^;", api.ErrForm}, {head + low + "engine a in ^top #", api.ErrNone}, {head + "engine a in ^low {", api.ErrNone}, {head + "let low = 1; engine a in ^low {", api.ErrNone}, {head + low + engineA + "engine b in ^a {", api.ErrNone}, {head + low + "engine a in ^one {", api.ErrNone}, {head + "engine a in ^low #" + low, api.ErrNone},
		{head + low + engineA + "engine ^a #", api.ErrThere}, {head + low + top + engineA + "engine ^a in top", api.ErrThere}, {head + low + engineA + engineB + "engine ^a in none", api.ErrThere},
		{block("^thrust"), api.ErrForm}, {block("^}"), api.ErrForm}, {block("count = 2; ^flow"), api.ErrForm}, {block("count = 2; thrust = 1 N; ^least"), api.ErrForm}, {block("count = 2; thrust = 1 N; flow = 1 t/s; ^start"), api.ErrForm}, {block("count = 2; thrust = 1 N; flow = 1 t/s; least = 1; ^stop"), api.ErrForm}, {block("count = 2; thrust = 1 N; flow = 1 t/s; least = 1; start = 1 s; ^}"), api.ErrForm}, {block("count = 2; thrust = 1 N; flow = 1 t/s; least = 1; start = 1 s; stop = 1 s; ^count"), api.ErrForm},
		{block("count = 2 ^.. 3;"), api.ErrForm}, {block("count = 2 ^+- 0;"), api.ErrForm}, {block("count = ^1 t;"), api.ErrUnit}, {block("count = ^1 s / 2;"), api.ErrUnit}, {block("count = ^1 t / 2 t * 1 s;"), api.ErrUnit}, {block("count = ^0;"), api.ErrRange}, {block("count = ^65;"), api.ErrRange}, {block("count = ^-1;"), api.ErrRange}, {block("count = ^1.5;"), api.ErrRange}, {block("count = ^128 / 3;"), api.ErrRange}, {block("count = ^999999999999999999;"), api.ErrRange}, {block("count = ^0; #"), api.ErrRange}, {block("count = 0 ^#"), api.ErrForm}, {block("count = 0 ^}"), api.ErrForm},
		{block("count = 2; thrust = ^1 t;"), api.ErrUnit}, {block("count = 2; thrust = ^1 Pa;"), api.ErrUnit}, {block("count = 2; thrust = 1 N; flow = ^1 t;"), api.ErrUnit}, {block("count = 2; thrust = 1 N; flow = ^1 N;"), api.ErrUnit}, {block("count = 2; thrust = 1 N; flow = 1 t/s; least = ^1 s;"), api.ErrUnit}, {block("count = 2; thrust = 1 N; flow = 1 t/s; least = 1 ^.. 2;"), api.ErrForm}, {block("count = 2; thrust = 1 N; flow = 1 t/s; least = ^2147483648;"), api.ErrRange}, {block("count = 2; thrust = 1 N; flow = 1 t/s; least = 1; start = ^1 t;"), api.ErrUnit}, {block("count = 2; thrust = 1 N; flow = 1 t/s; least = 1; start = 1 s; stop = ^1;"), api.ErrUnit},
		// drag
		{head + "drag ^=", api.ErrForm}, {head + "drag {^", api.ErrForm}, {head + "drag { ^;", api.ErrForm}, {head + "drag { ^{", api.ErrForm}, {head + "drag { 0 km/s ^=", api.ErrForm}, {head + "drag { 0 km/s ^;", api.ErrForm}, {head + "drag { 0 km/s ^.. 1 km/s", api.ErrForm}, {head + "drag { 0 km/s : ^}", api.ErrForm}, {head + "drag { 0 km/s : 1 m*m ^}", api.ErrForm}, {head + "drag { 0 km/s : 1 m*m ^1 km/s", api.ErrForm}, {head + "drag { 0 km/s : 1 m*m; ^axial", api.ErrForm}, {head + "drag { 0 km/s : 1 m*m;^", api.ErrForm},
		{head + "drag { ^0 km : #", api.ErrUnit}, {head + "drag { ^0 : 1 m*m;", api.ErrUnit}, {head + "drag { 0 km/s : ^1 km;", api.ErrUnit}, {head + "drag { 0 km/s : ^1 m*m .. 1 m;", api.ErrUnit}, {head + "drag { ^2147483648 km/s : #", api.ErrRange}, {head + "drag { 0 km/s : ^2 m*m .. 1 m*m;", api.ErrOrder}, {head + "drag { ^0 km : 1 m;", api.ErrUnit}, {head + drag + "^drag #", api.ErrThere}, {head + "drag { } ^drag { }", api.ErrThere}, {head + "drag { ^x : 1", api.ErrNone},
		// limits
		{head + "limits ^=", api.ErrForm}, {head + "limits { ^bending", api.ErrForm}, {head + "limits { axial ^;", api.ErrForm}, {head + "limits { axial = 1 m/s/s; ^}", api.ErrForm}, {head + "limits { axial = 1 m/s/s ^.. 2 m/s/s;", api.ErrForm}, {head + "limits { axial = 1 m/s/s; bending = 1 Pa; ^axial", api.ErrForm}, {head + "limits { axial = ^1 m/s; bending", api.ErrUnit}, {head + "limits { axial = 1 m/s/s; bending = ^1 N; }", api.ErrUnit}, {head + "limits { axial = ^2147483648 km/s/s; #", api.ErrRange}, {head + "limits { axial = 1 m/s/s; bending = ^2147484 kPa * 1000; }", api.ErrRange}, {head + limits + "^limits #", api.ErrThere},
		// payload
		{head + "payload ^1 t;", api.ErrForm}, {head + "payload = ^;", api.ErrForm}, {head + "payload = 1 t^", api.ErrForm}, {head + "payload = 1 t ^}", api.ErrForm}, {head + "payload = 1 t .. ^;", api.ErrForm}, {head + "payload = 1 t +- ^;", api.ErrForm}, {head + "payload = 1 t .. 2 t ^.. 3 t;", api.ErrForm}, {head + "payload = 1 t +- 2 t ^+- 3 t;", api.ErrForm}, {head + "payload = 1 t ..^. 2 t;", api.ErrForm}, {head + "payload = ^.. 2 t;", api.ErrForm}, {head + payload + "^payload #", api.ErrThere}, {head + "payload = 1 t; ^payload = 1 t;", api.ErrThere},
	}
}

// faultsOfBounds returns what may stand behind payload =, with a ^ where the fault is.
func faultsOfBounds() []struct {
	s string
	e api.Errno
} {
	const huge = "(999999999999999999 * 4) "
	return []struct {
		s string
		e api.Errno
	}{
		// They are found when the semicolon has been read, before what is behind that.
		{"^1 s;", api.ErrUnit}, {"^1 s; #", api.ErrUnit}, {"^1;", api.ErrUnit}, {"^1 kg * m;", api.ErrUnit}, {"1 s ^#", api.ErrForm}, {"1 s ^}", api.ErrForm}, {"1 s .. ^#", api.ErrForm}, {"1 s .. 1 ^/ 0;", api.ErrArg}, {"1 s .. 1 t^", api.ErrForm},
		{"^1 s .. 1 t;", api.ErrUnit}, {"^1 t .. 1 s;", api.ErrUnit}, {"^1 t +- 1 s;", api.ErrUnit}, {"^1 s +- 1 t;", api.ErrUnit}, {"^1 s +- 1 s;", api.ErrUnit}, {"^1 t +- 1; #", api.ErrUnit}, {"^0 +- 0 t;", api.ErrUnit}, {"^(1 s);", api.ErrUnit}, {"^-1 s;", api.ErrUnit},
		// The dimension is asked before the sum and the difference are made, and these before the numbers.
		{"^" + huge + "* t +- " + huge + "* s;", api.ErrUnit}, {"^" + huge + "* t +- " + huge + "* t;", api.ErrRange}, {"^-" + huge + "* t +- " + huge + "* t;", api.ErrRange}, {"^" + huge + "* s .. 2 t;", api.ErrUnit}, {"^" + huge + "* t .. 2 s;", api.ErrUnit}, {"^1 t / 3000000000 +- 1 t / 2999999999;", api.ErrRange},
		{"^2147483648 t;", api.ErrRange}, {"^-2147483648 t;", api.ErrRange}, {"^0 t .. 2147483648 t;", api.ErrRange}, {"^-2147483648 t .. 0 t;", api.ErrRange}, {"^1 t +- 2147483647 t;", api.ErrRange}, {"^-1 t +- 2147483647 t;", api.ErrRange}, {"^2147483648 t .. 1 t;", api.ErrRange}, {"^2147483648 t; #", api.ErrRange},
		{"^2 t .. 1 t;", api.ErrOrder}, {"^2 t .. 1 t; #", api.ErrOrder}, {"^1 t +- -1 t;", api.ErrOrder}, {"^1 t +- (1 t - 2 t);", api.ErrOrder}, {"^1 t / 3 .. 1 t / 4;", api.ErrOrder}, {"^0 t .. -1 t;", api.ErrOrder}, {"2 t .. 1 t ^#", api.ErrForm}, {"2 t .. 1 t ^)", api.ErrForm},
		{"1 t ^+ 1 s .. #", api.ErrUnit}, {"1 t + 1 s ^#", api.ErrForm},
	}
}

func TestParseFaults(t *testing.T) {
	is := func(marks string, e api.Errno) {
		t.Helper()
		s, want := marked(marks)
		if v, at, f := vehicle.Parse(s); at != want || f != e || !sameVehicle(v, api.Vehicle{}) {
			t.Errorf("Parse of %q: %v, at %d, error %d; want %d, error %d", s, v, at, f, want, e)
		}
	}
	for _, c := range faultsOfVehicles() {
		is(c.s, c.e)
	}
	for _, c := range faultsOfBounds() {
		is(head+low+drag+limits+"payload = "+c.s, c.e)
	}
	// A quantity of a vehicle has the faults of one alone, but that a semicolon may stand behind it.
	for _, c := range faultsOfQuantities() {
		behind := ""
		if _, at := marked(c.s); at < len(c.s)-1 {
			behind = " ;"
		}
		if !strings.Contains(c.s, "^;") {
			is(head+"let y = "+c.s+behind, c.e)
		}
	}
	for _, word := range reserved() {
		is("vehicle ^"+word+";", api.ErrForm)
		is(head+"let ^"+word+" = 1;", api.ErrForm)
		is(head+"stage ^"+word+" {", api.ErrForm)
		is(head+low+"engine ^"+word+" in low {", api.ErrForm)
		is(head+low+"engine a in ^"+word+" {", api.ErrForm)
	}
	for _, u := range vehicle.Units() {
		is("vehicle ^"+u.Name+";", api.ErrForm)
		is(head+"let ^"+u.Name+" = 1;", api.ErrForm)
	}
}

// TestParseAtTheEnd checks the faults that are found when all has been read.
func TestParseAtTheEnd(t *testing.T) {
	stages := func(n int) string {
		var s strings.Builder
		for i := range n {
			s.WriteString(strings.ReplaceAll(low, "low", "s"+strconv.Itoa(i)))
		}
		return s.String()
	}
	engines := func(n int) string {
		var s strings.Builder
		for i := range n {
			s.WriteString(strings.ReplaceAll(engineA, " a ", " e"+strconv.Itoa(i)+" "))
		}
		return s.String()
	}
	points := func(n int) string {
		var s strings.Builder
		for i := range n {
			s.WriteString(strconv.Itoa(i) + " m/s : 1 m*m;")
		}
		return "drag {" + s.String() + "}" + limits + payload
	}
	for _, c := range []struct {
		s string
		e api.Errno
	}{
		{head, api.ErrState}, {head + low, api.ErrState}, {head + low + drag + limits, api.ErrState}, {head + low + drag + payload, api.ErrState}, {head + low + limits + payload, api.ErrState}, {head + low + drag + limits + " \n ", api.ErrState},
		{head + drag + limits, api.ErrState}, {head + strings.Replace(low, "3 t", "0 t", 1) + drag + limits, api.ErrState},
		{head + rest, api.ErrArg}, {head + rest + "  \n", api.ErrArg}, {head + stages(8) + rest, api.OK}, {head + stages(9) + rest, api.ErrLong}, {head + stages(50) + rest, api.ErrLong}, {head + low + engines(16) + rest, api.OK}, {head + low + engines(17) + rest, api.ErrLong},
		{head + strings.Replace(low, "3 t", "0 t", 1) + rest, api.ErrRange}, {head + strings.Replace(low, "3 t", "-1 t", 1) + rest, api.ErrRange}, {head + strings.Replace(low, "12 t", "1048577 t", 1) + rest, api.ErrRange},
		{head + low + strings.Replace(engineA, "3 MN", "0 MN", 1) + rest, api.ErrRange}, {head + low + strings.Replace(engineA, "1/2;", "-1;", 1) + rest, api.ErrRange}, {head + low + strings.Replace(engineA, "1/2;", "2;", 1) + rest, api.ErrRange}, {head + low + strings.Replace(engineA, "0 s", "-1 s", 1) + rest, api.ErrRange},
		{head + low + drag + limits + "payload = -1 t;", api.ErrRange}, {head + low + drag + limits + "payload = 2147483647 t;", api.ErrRange},
		{head + low + points(0), api.ErrArg}, {head + low + points(1), api.OK}, {head + low + points(64), api.OK}, {head + low + points(65), api.ErrArg}, {head + low + "drag { 1 m/s : 1 m*m; 1 m/s : 1 m*m; }" + limits + payload, api.ErrArg}, {head + low + "drag { 0 m/s : 1 m*m; 1 m/s/9999999999 : 1 m*m; }" + limits + payload, api.ErrArg}, {head + low + "drag { -1 m/s : 1 m*m; }" + limits + payload, api.ErrArg}, {head + low + "drag { 0 m/s : -1 m*m; }" + limits + payload, api.ErrArg},
		{head + low + drag + payload + "limits { axial = 0 m/s/s; bending = 1 Pa; }", api.ErrRange}, {head + low + drag + payload + "limits { axial = 1 m/s/s; bending = 1 Pa / 4294967297; }", api.ErrRange}, {head + low + drag + payload + "limits { axial = 1 m/s/s; bending = 1048577 Pa; }", api.ErrRange},
	} {
		want := len(c.s)
		if c.e == api.OK {
			want = 0
		}
		if v, at, e := vehicle.Parse(c.s); at != want || e != c.e || e != api.OK && !sameVehicle(v, api.Vehicle{}) {
			t.Errorf("Parse of %q: %v, at %d, error %d; want %d, error %d", c.s, v, at, e, want, c.e)
		}
	}
}

func TestParseLength(t *testing.T) {
	s := head + low + top + engineA + engineB + engineC + rest
	s += strings.Repeat("\n", api.MaxText-len(s))
	if v, at, e := vehicle.Parse(s); !sameVehicle(v, sample()) || at != 0 || e != api.OK {
		t.Errorf("Parse of a text of the greatest length: %v, at %d, error %d", v, at, e)
	}
	for _, s := range []string{s + "\n", strings.Repeat("#", api.MaxText+1), strings.Repeat("vehicle ", 1<<17)} {
		if v, at, e := vehicle.Parse(s); !sameVehicle(v, api.Vehicle{}) || at != 0 || e != api.ErrLong {
			t.Errorf("Parse of a text of %d bytes: %v, at %d, error %d", len(s), v, at, e)
		}
	}
}

// TestParseFirstFault puts what is no token between all tokens of a text: it is the first fault there, whatever is read.
func TestParseFirstFault(t *testing.T) {
	text := head + "let x = 2 * (1 - 3 / 5) / -2 km;" + low + top + engineA + engineB + engineC + rest
	for at := 0; at < len(text); {
		for text[at] == ' ' || text[at] == '\n' {
			at++
		}
		for bad, want := range map[string]api.Errno{" # ": api.ErrForm, " 1234567890123456789 ": api.ErrRange, " " + strings.Repeat("x", 33) + " ": api.ErrForm} {
			if _, got, e := vehicle.Parse(text[:at] + bad + text[at:]); got != at+1 || e != want {
				t.Errorf("%q at %d: at %d, error %d", bad, at, got, e)
			}
		}
		// The end comes too early, or not: then a part is not there yet.
		_, got, e := vehicle.Parse(text[:at])
		between := strings.HasSuffix(strings.TrimSpace(text[:at]), "}") || strings.HasPrefix(text[at:], "stage") || strings.HasPrefix(text[at:], "drag") || at == len(head)
		if got != at || between && e != api.ErrState || !between && e != api.ErrForm {
			t.Errorf("the first %d bytes: at %d, error %d", at, got, e)
		}
		at += max(1, len(tokenForm.FindString(text[at:])))
		if strings.TrimSpace(text[at:]) == "" {
			break
		}
	}
}
