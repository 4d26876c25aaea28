package vehicle_test

// P2.1 (Units, CheckQuantity), P2.2 (Plus, Minus, Times, Over), P2.3 (Lower, Upper), P2.5 (Show), P2.14 and P2.15.

import (
	"math/big"
	"slices"
	"testing"

	"ullage/api"
	"ullage/vehicle"
)

func TestUnits(t *testing.T) {
	want := []api.Unit{
		{Name: "km", Is: api.Quantity{Num: 1, Den: 1, Km: 1}},
		{Name: "m", Is: api.Quantity{Num: 1, Den: 1000, Km: 1}},
		{Name: "cm", Is: api.Quantity{Num: 1, Den: 100000, Km: 1}},
		{Name: "s", Is: api.Quantity{Num: 1, Den: 1, S: 1}},
		{Name: "ms", Is: api.Quantity{Num: 1, Den: 1000, S: 1}},
		{Name: "min", Is: api.Quantity{Num: 60, Den: 1, S: 1}},
		{Name: "h", Is: api.Quantity{Num: 3600, Den: 1, S: 1}},
		{Name: "t", Is: api.Quantity{Num: 1, Den: 1, T: 1}},
		{Name: "kg", Is: api.Quantity{Num: 1, Den: 1000, T: 1}},
		{Name: "MN", Is: api.Quantity{Num: 1, Den: 1, Km: 1, S: -2, T: 1}},
		{Name: "kN", Is: api.Quantity{Num: 1, Den: 1000, Km: 1, S: -2, T: 1}},
		{Name: "N", Is: api.Quantity{Num: 1, Den: 1000000, Km: 1, S: -2, T: 1}},
		{Name: "Pa", Is: api.Quantity{Num: 1, Den: 1, Km: -1, S: -2, T: 1}},
		{Name: "kPa", Is: api.Quantity{Num: 1000, Den: 1, Km: -1, S: -2, T: 1}},
	}
	if got := vehicle.Units(); !slices.Equal(got, want) {
		t.Errorf("Units: %v", got)
	}
	vehicle.Units()[0].Name = "mile"
	if got := vehicle.Units(); !slices.Equal(got, want) {
		t.Errorf("Units, after a result was changed: %v", got)
	}
}

// TestUnitsAreWhatTheyAre checks the units against each other, by what they are made of.
func TestUnitsAreWhatTheyAre(t *testing.T) {
	for _, c := range [][2]string{
		{"m", "km / 1000"}, {"cm", "m / 100"}, {"ms", "s / 1000"}, {"min", "60 s"}, {"h", "3600 s"}, {"kg", "t / 1000"},
		{"MN", "t * km / (s * s)"}, {"kN", "MN / 1000"}, {"N", "kN / 1000"}, {"Pa", "t / (km * s * s)"}, {"kPa", "1000 Pa"}, {"N", "kg * m / s / s"}, {"Pa", "N / (m * m)"},
	} {
		a, _, e := vehicle.Read(c[0])
		b, _, f := vehicle.Read(c[1])
		if a != b || e != api.OK || f != api.OK {
			t.Errorf("%s is %v, error %d; %s is %v, error %d", c[0], a, e, c[1], b, f)
		}
	}
}

func TestCheckQuantity(t *testing.T) {
	for _, q := range badQuantities() {
		if vehicle.CheckQuantity(q) {
			t.Errorf("%v is valid", q)
		}
	}
	good := append(edges(), api.Quantity{Num: 1, Den: 1, Km: 9, S: -9, T: 9}, api.Quantity{Num: 0, Den: 1, Km: -9, S: 9, T: -9})
	for _, q := range good {
		if !vehicle.CheckQuantity(q) {
			t.Errorf("%v is not valid", q)
		}
	}
}

type operation func(a, b api.Quantity) (api.Quantity, api.Errno)

// wantSum returns the sum of two valid quantities with the same dimension, step by step.
func wantSum(a, b api.Quantity) (api.Quantity, api.Errno) {
	if units(a) != units(b) {
		return api.Quantity{}, api.ErrUnit
	}
	of := func(n int) *big.Int { return big.NewInt(int64(n)) }
	common := new(big.Int).GCD(nil, nil, of(a.Den), of(b.Den))
	left := new(big.Int).Mul(of(a.Num), new(big.Int).Quo(of(b.Den), common))
	right := new(big.Int).Mul(of(b.Num), new(big.Int).Quo(of(a.Den), common))
	sum := new(big.Int).Add(left, right)
	den := new(big.Int).Mul(of(a.Den), new(big.Int).Quo(of(b.Den), common))
	for _, n := range []*big.Int{left, right, sum, den} {
		if n.CmpAbs(big.NewInt(api.MaxRatio)) > 0 {
			return api.Quantity{}, api.ErrRange
		}
	}
	q, _ := ofRat(new(big.Rat).SetFrac(sum, den), units(a))
	return q, api.OK
}

func wantDifference(a, b api.Quantity) (api.Quantity, api.Errno) {
	b.Num = -b.Num
	return wantSum(a, b)
}

func wantProduct(a, b api.Quantity) (api.Quantity, api.Errno) {
	q, fits := ofRat(new(big.Rat).Mul(exact(a), exact(b)), [3]int{a.Km + b.Km, a.S + b.S, a.T + b.T})
	if !fits {
		return api.Quantity{}, api.ErrRange
	}
	return q, api.OK
}

func wantQuotient(a, b api.Quantity) (api.Quantity, api.Errno) {
	if b.Num == 0 {
		return api.Quantity{}, api.ErrArg
	}
	q, fits := ofRat(new(big.Rat).Quo(exact(a), exact(b)), [3]int{a.Km - b.Km, a.S - b.S, a.T - b.T})
	if !fits {
		return api.Quantity{}, api.ErrRange
	}
	return q, api.OK
}

func TestArithmetic(t *testing.T) {
	r := random()
	pairs := [][2]api.Quantity{}
	for _, a := range edges() {
		for _, b := range edges() {
			pairs = append(pairs, [2]api.Quantity{a, b})
		}
	}
	for i := range 40000 {
		a, b := randomQuantity(r), randomQuantity(r)
		if i%2 == 0 {
			b.Km, b.S, b.T = a.Km, a.S, a.T
		}
		pairs = append(pairs, [2]api.Quantity{a, b})
	}
	for _, c := range []struct {
		name      string
		got, want operation
	}{
		{"Plus", vehicle.Plus, wantSum}, {"Minus", vehicle.Minus, wantDifference}, {"Times", vehicle.Times, wantProduct}, {"Over", vehicle.Over, wantQuotient},
	} {
		found := map[api.Errno]int{}
		for _, p := range pairs {
			q, e := c.got(p[0], p[1])
			want, f := c.want(p[0], p[1])
			found[f]++
			if q != want || e != f {
				t.Fatalf("%s of %v and %v: %v, error %d; want %v, error %d", c.name, p[0], p[1], q, e, want, f)
			}
			if e == api.OK && !vehicle.CheckQuantity(q) {
				t.Fatalf("%s of %v and %v: %v is not valid", c.name, p[0], p[1], q)
			}
		}
		if found[api.OK] < 1000 || found[api.ErrRange] < 1000 {
			t.Errorf("%s: too few results, or errors, were looked at: %v", c.name, found)
		}
		for _, bad := range badQuantities() {
			for _, good := range []api.Quantity{plain(1, 1), plain(0, 1), {Num: 1, Den: 1, Km: 1}} {
				q, e := c.got(bad, good)
				isQuantity(t, c.name, q, e, api.Quantity{}, api.ErrArg)
				q, e = c.got(good, bad)
				isQuantity(t, c.name, q, e, api.Quantity{}, api.ErrArg)
			}
		}
	}
}

func TestArithmeticAtTheLimits(t *testing.T) {
	const most = api.MaxRatio
	km := func(n int) api.Quantity { return api.Quantity{Num: 1, Den: 1, Km: n} }
	for _, c := range []struct {
		name string
		of   operation
		a, b api.Quantity
		want api.Quantity
		e    api.Errno
	}{
		{"Plus", vehicle.Plus, plain(1, 2), plain(1, 6), plain(2, 3), api.OK},
		{"Plus", vehicle.Plus, plain(most-1, 1), plain(1, 1), plain(most, 1), api.OK},
		{"Plus", vehicle.Plus, plain(most, 1), plain(1, 1), api.Quantity{}, api.ErrRange},
		{"Plus", vehicle.Plus, plain(most, 1), plain(most, 1), api.Quantity{}, api.ErrRange},
		{"Plus", vehicle.Plus, plain(-most, 1), plain(-most, 1), api.Quantity{}, api.ErrRange},
		{"Plus", vehicle.Plus, plain(most, 1), plain(-most, 1), plain(0, 1), api.OK},
		{"Plus", vehicle.Plus, plain(1, most), plain(1, most), plain(1, most/2), api.OK},
		// The result would be valid, but a product is none.
		{"Plus", vehicle.Plus, plain(most, 1), plain(-1, 3), api.Quantity{}, api.ErrRange},
		{"Plus", vehicle.Plus, plain(1, most), plain(1, 3), api.Quantity{}, api.ErrRange},
		{"Plus", vehicle.Plus, plain(1, 3<<60), plain(1, 1<<60), plain(1, 3<<58), api.OK},
		{"Plus", vehicle.Plus, plain(1, 3<<60), plain(1, 1<<61), api.Quantity{}, api.ErrRange},
		{"Plus", vehicle.Plus, km(1), km(2), api.Quantity{}, api.ErrUnit},
		{"Plus", vehicle.Plus, plain(most, 1), api.Quantity{Num: most, Den: 1, S: 1}, api.Quantity{}, api.ErrUnit},
		{"Plus", vehicle.Plus, plain(0, 1), api.Quantity{Num: 0, Den: 1, T: 1}, api.Quantity{}, api.ErrUnit},
		{"Minus", vehicle.Minus, plain(1, 2), plain(1, 6), plain(1, 3), api.OK},
		{"Minus", vehicle.Minus, plain(most, 1), plain(-most, 1), api.Quantity{}, api.ErrRange},
		{"Minus", vehicle.Minus, plain(-most, 1), plain(most, 1), api.Quantity{}, api.ErrRange},
		{"Minus", vehicle.Minus, plain(most, 1), plain(most, 1), plain(0, 1), api.OK},
		{"Minus", vehicle.Minus, km(1), km(-1), api.Quantity{}, api.ErrUnit},
		{"Times", vehicle.Times, plain(2, 3), plain(3, 2), plain(1, 1), api.OK},
		{"Times", vehicle.Times, plain(1<<31, 1), plain(1<<31, 1), plain(most, 1), api.OK},
		{"Times", vehicle.Times, plain(-1<<31, 1), plain(1<<31, 1), plain(-most, 1), api.OK},
		{"Times", vehicle.Times, plain(1<<31, 1), plain(1<<31+1, 1), api.Quantity{}, api.ErrRange},
		{"Times", vehicle.Times, plain(1, 1<<31), plain(1, 1<<31), plain(1, most), api.OK},
		{"Times", vehicle.Times, plain(1, 1<<31), plain(1, 1<<31+1), api.Quantity{}, api.ErrRange},
		{"Times", vehicle.Times, plain(most, 3), plain(3, most), plain(1, 1), api.OK},
		{"Times", vehicle.Times, km(9), plain(2, 1), api.Quantity{Num: 2, Den: 1, Km: 9}, api.OK},
		{"Times", vehicle.Times, km(9), km(1), api.Quantity{}, api.ErrRange},
		{"Times", vehicle.Times, km(9), km(-9), plain(1, 1), api.OK},
		{"Times", vehicle.Times, api.Quantity{Num: 0, Den: 1, S: -9}, api.Quantity{Num: 1, Den: 1, S: -1}, api.Quantity{}, api.ErrRange},
		{"Times", vehicle.Times, plain(0, 1), plain(1, most), plain(0, 1), api.OK},
		{"Over", vehicle.Over, plain(1, 2), plain(-3, 4), plain(-2, 3), api.OK},
		{"Over", vehicle.Over, plain(1, 1), plain(-most, 1), plain(-1, most), api.OK},
		{"Over", vehicle.Over, plain(most, 1), plain(1, 2), api.Quantity{}, api.ErrRange},
		{"Over", vehicle.Over, plain(1, most), plain(2, 1), api.Quantity{}, api.ErrRange},
		{"Over", vehicle.Over, plain(-most, 3), plain(-most, 3), plain(1, 1), api.OK},
		{"Over", vehicle.Over, plain(1, 1), plain(0, 1), api.Quantity{}, api.ErrArg},
		{"Over", vehicle.Over, km(9), api.Quantity{Num: 0, Den: 1, Km: -9}, api.Quantity{}, api.ErrArg},
		{"Over", vehicle.Over, km(9), km(-1), api.Quantity{}, api.ErrRange},
		{"Over", vehicle.Over, km(-9), km(-9), plain(1, 1), api.OK},
		{"Over", vehicle.Over, plain(0, 1), plain(-5, 7), plain(0, 1), api.OK},
	} {
		q, e := c.of(c.a, c.b)
		isQuantity(t, c.name, q, e, c.want, c.e)
	}
}

// TestOrderOfOperations checks P2.14.
func TestOrderOfOperations(t *testing.T) {
	r := random()
	small := func() api.Quantity {
		q, _ := ofRat(big.NewRat(r.Int64N(2001)-1000, r.Int64N(50)+1), [3]int{r.IntN(3) - 1, 0, 1})
		return q
	}
	thrice := func(of operation, a, b, c api.Quantity) (left, right api.Quantity, fine bool) {
		ab, e1 := of(a, b)
		left, e2 := of(ab, c)
		bc, e3 := of(b, c)
		right, e4 := of(a, bc)
		return left, right, e1 == api.OK && e2 == api.OK && e3 == api.OK && e4 == api.OK
	}
	sums := 0
	for range 20000 {
		a, b, c := small(), small(), small()
		for _, of := range []operation{vehicle.Plus, vehicle.Times} {
			x, e := of(a, b)
			y, f := of(b, a)
			if x != y || e != f {
				t.Errorf("%v and %v: %v, error %d; the other way %v, error %d", a, b, x, e, y, f)
			}
			left, right, fine := thrice(of, a, b, c)
			if fine && left != right {
				t.Errorf("%v, %v and %v: %v and %v", a, b, c, left, right)
			}
			if fine {
				sums++
			}
		}
		if b.Num != 0 {
			x, e := vehicle.Times(a, b)
			y, f := vehicle.Over(x, b)
			if e != api.OK || f != api.OK || y != a {
				t.Errorf("%v times and over %v: %v, error %d", a, b, y, f)
			}
		}
		b.Km = a.Km
		x, e := vehicle.Plus(a, b)
		y, f := vehicle.Minus(x, b)
		if e != api.OK || f != api.OK || y != a {
			t.Errorf("%v plus and minus %v: %v, error %d", a, b, y, f)
		}
	}
	if sums < 20000 {
		t.Errorf("only %d sums and products were compared", sums)
	}
}

func TestLowerAndUpper(t *testing.T) {
	r := random()
	all := edges()
	for range 20000 {
		all = append(all, randomQuantity(r))
	}
	most := big.NewInt(int64(api.MostNum))
	want := func(n *big.Int) (api.Num, api.Errno) {
		if n.CmpAbs(most) > 0 {
			return 0, api.ErrRange
		}
		return api.Num(n.Int64()), api.OK
	}
	for _, q := range all {
		exactly := scaled(exact(q))
		lower, e := vehicle.Lower(q)
		if n, f := want(floor(exactly)); lower != n || e != f {
			t.Errorf("Lower of %v: %d, error %d; want %d, error %d", q, lower, e, n, f)
		}
		upper, e2 := vehicle.Upper(q)
		if n, f := want(ceil(exactly)); upper != n || e2 != f {
			t.Errorf("Upper of %v: %d, error %d; want %d, error %d", q, upper, e2, n, f)
		}
		if e == api.OK && e2 == api.OK && (upper-lower != 0) != (upper-lower == 1 && !exactly.IsInt()) {
			t.Errorf("Lower and Upper of %v: %d and %d", q, lower, upper)
		}
	}
	for _, q := range badQuantities() {
		if n, e := vehicle.Lower(q); n != 0 || e != api.ErrArg {
			t.Errorf("Lower of %v: %d, error %d", q, n, e)
		}
		if n, e := vehicle.Upper(q); n != 0 || e != api.ErrArg {
			t.Errorf("Upper of %v: %d, error %d", q, n, e)
		}
	}
}

func TestLowerAndUpperAtTheLimits(t *testing.T) {
	const most = api.MostNum
	for _, c := range []struct {
		q            api.Quantity
		lower, upper api.Num
		e, f         api.Errno
	}{
		{plain(0, 1), 0, 0, api.OK, api.OK},
		{plain(1, 3), 1431655765, 1431655766, api.OK, api.OK},
		{plain(-1, 3), -1431655766, -1431655765, api.OK, api.OK},
		{plain(-3, 4), -3 << 30, -3 << 30, api.OK, api.OK},
		{plain(1, api.MaxRatio), 0, 1, api.OK, api.OK},
		{plain(-1, api.MaxRatio), -1, 0, api.OK, api.OK},
		{api.Quantity{Num: 5, Den: 1, Km: 1, S: -9, T: 9}, 5 * api.One, 5 * api.One, api.OK, api.OK},
		{plain(1<<31, 1), 0, 0, api.ErrRange, api.ErrRange},
		{plain(-1<<31, 1), 0, 0, api.ErrRange, api.ErrRange},
		{plain(1<<62-1, 1<<31), most - 1, most - 1, api.OK, api.OK},
		{plain(1-1<<62, 1<<31), 1 - most, 1 - most, api.OK, api.OK},
		// No other quantities come closer to 2^31.
		{plain(1<<62-(1<<31)-1, 1<<31-1), most - 2, most - 1, api.OK, api.OK},
		{plain(-1<<62+(1<<31)+1, 1<<31-1), 1 - most, 2 - most, api.OK, api.OK},
		{plain(1<<62-(1<<31)+1, 1<<31-1), 0, 0, api.ErrRange, api.ErrRange},
		{plain(api.MaxRatio, 1), 0, 0, api.ErrRange, api.ErrRange},
		{plain(-api.MaxRatio, 1), 0, 0, api.ErrRange, api.ErrRange},
	} {
		n, e := vehicle.Lower(c.q)
		if n != c.lower || e != c.e {
			t.Errorf("Lower of %v: %d, error %d; want %d, error %d", c.q, n, e, c.lower, c.e)
		}
		n, e = vehicle.Upper(c.q)
		if n != c.upper || e != c.f {
			t.Errorf("Upper of %v: %d, error %d; want %d, error %d", c.q, n, e, c.upper, c.f)
		}
	}
}

func TestShow(t *testing.T) {
	for _, c := range []struct {
		q    api.Quantity
		want string
	}{
		{plain(0, 1), "0"},
		{plain(1500, 1), "1500"},
		{plain(-7, 2), "-7/2"},
		{api.Quantity{Num: -3, Den: 4, Km: 1, S: -2}, "-3/4 km s^-2"},
		{api.Quantity{Num: 1, Den: 1, Km: 1, S: 1, T: 1}, "1 km s t"},
		{api.Quantity{Num: 1, Den: 1, Km: -1, S: 2, T: 9}, "1 km^-1 s^2 t^9"},
		{api.Quantity{Num: 0, Den: 1, T: -9}, "0 t^-9"},
		{plain(-api.MaxRatio, 1), "-4611686018427387904"},
		{plain(1, api.MaxRatio), "1/4611686018427387904"},
	} {
		if got := vehicle.Show(c.q); got != c.want {
			t.Errorf("Show of %v: %q, want %q", c.q, got, c.want)
		}
	}
	for _, q := range badQuantities() {
		if got := vehicle.Show(q); got != "" {
			t.Errorf("Show of %v: %q", q, got)
		}
	}
}
