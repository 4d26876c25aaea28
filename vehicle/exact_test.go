package vehicle_test

// What the tests share: quantities at the edges and at random, a vehicle, and exact arithmetic to hold the program against.

import (
	"math/big"
	"math/rand/v2"
	"strconv"
	"strings"
	"testing"

	"ullage/api"
)

// random returns a source of numbers that are the same in each run.
func random() *rand.Rand {
	return rand.New(rand.NewPCG(3, 4))
}

// marked returns a text without its ^, and where that stood.
func marked(s string) (text string, at int) {
	before, behind, _ := strings.Cut(s, "^")
	return before + behind, len(before)
}

// plain returns a quantity without a unit.
func plain(num, den int) api.Quantity {
	return api.Quantity{Num: num, Den: den}
}

// ints returns the span between two integers.
func ints(lo, hi int) api.Span {
	return api.Span{Lo: api.Num(lo) * api.One, Hi: api.Num(hi) * api.One}
}

// exact returns the number of a quantity as it is.
func exact(q api.Quantity) *big.Rat {
	return new(big.Rat).SetFrac(big.NewInt(int64(q.Num)), big.NewInt(int64(q.Den)))
}

// units returns the exponents of a quantity.
func units(q api.Quantity) [3]int {
	return [3]int{q.Km, q.S, q.T}
}

// ofRat returns an exact number with exponents as a quantity, and whether that is valid.
func ofRat(x *big.Rat, of [3]int) (api.Quantity, bool) {
	most := big.NewInt(api.MaxRatio)
	if x.Num().CmpAbs(most) > 0 || x.Denom().Cmp(most) > 0 {
		return api.Quantity{}, false
	}
	for _, n := range of {
		if n < -9 || n > 9 {
			return api.Quantity{}, false
		}
	}
	return api.Quantity{Num: int(x.Num().Int64()), Den: int(x.Denom().Int64()), Km: of[0], S: of[1], T: of[2]}, true
}

// floor returns the greatest integer that is not above x.
func floor(x *big.Rat) *big.Int {
	return new(big.Int).Div(x.Num(), x.Denom()) // Div of package big rounds down, if the divisor is above 0
}

// ceil returns the least integer that is not below x.
func ceil(x *big.Rat) *big.Int {
	n := floor(new(big.Rat).Neg(x))
	return n.Neg(n)
}

// scaled returns x in units of 2^-32.
func scaled(x *big.Rat) *big.Rat {
	return new(big.Rat).Mul(x, big.NewRat(1<<32, 1))
}

// ofNum returns a number as it is.
func ofNum(n api.Num) *big.Rat {
	return big.NewRat(int64(n), 1<<32)
}

// roundedOut returns the least span from one exact number to another one, or ErrRange.
func roundedOut(lo, hi *big.Rat) (api.Span, api.Errno) {
	low, high, most := floor(scaled(lo)), ceil(scaled(hi)), big.NewInt(int64(api.MostNum))
	if low.CmpAbs(most) > 0 || high.CmpAbs(most) > 0 {
		return api.Span{}, api.ErrRange
	}
	return api.Span{Lo: api.Num(low.Int64()), Hi: api.Num(high.Int64())}, api.OK
}

// edges returns valid quantities whose numbers are at the places where something changes.
func edges() []api.Quantity {
	var l []api.Quantity
	nums := []int{0, 1, 2, 3, 7, 1000, 1<<31 - 1, 1 << 31, 1<<32 - 1, 1 << 32, 1<<61 - 1, 1 << 61, 1<<62 - 1, 1 << 62}
	for _, num := range nums {
		for _, den := range nums[1:] {
			if new(big.Int).GCD(nil, nil, big.NewInt(int64(num)), big.NewInt(int64(den))).Int64() == 1 {
				l = append(l, plain(num, den))
				if num > 0 {
					l = append(l, plain(-num, den))
				}
			}
		}
	}
	return l
}

// randomQuantity returns a valid quantity of any size.
func randomQuantity(r *rand.Rand) api.Quantity {
	num := r.IntN(1<<62+1) >> r.IntN(63)
	den := r.IntN(1<<62)>>r.IntN(62) + 1
	if r.IntN(2) == 0 {
		num = -num
	}
	q, _ := ofRat(new(big.Rat).SetFrac(big.NewInt(int64(num)), big.NewInt(int64(den))), [3]int{r.IntN(5) - 2, r.IntN(5) - 2, r.IntN(19) - 9})
	return q
}

// badQuantities returns quantities that are not valid.
func badQuantities() []api.Quantity {
	l := []api.Quantity{
		{}, plain(1, 0), plain(0, 0), plain(1, -1), plain(-1, -1), plain(0, -1), plain(0, 2), plain(2, 2), plain(2, 4), plain(-6, 9), plain(6, -9),
		plain(1<<62+1, 1), plain(-1<<62-1, 1), plain(1, 1<<62+1), plain(1<<63-1, 1), plain(-1<<63, 1), plain(1, -1<<63), plain(1, 1<<63-1), plain(-1<<63, -1<<63), plain(1<<62, 1<<62),
	}
	for i := range 3 {
		for _, n := range []int{-10, 10, 1<<63 - 1, -1 << 63} {
			var of [3]int
			of[i] = n
			l = append(l, api.Quantity{Num: 1, Den: 1, Km: of[0], S: of[1], T: of[2]})
		}
	}
	return l
}

// sample returns a vehicle of two stages with two engines and one.
func sample() api.Vehicle {
	return api.Vehicle{
		Name: "one",
		Stages: []api.Stage{
			{Name: "low", Dry: ints(3, 3), Prop: ints(10, 12), Engines: []api.Engine{
				{Name: "a", Count: 2, Thrust: ints(3, 4), Flow: ints(1, 2), Least: api.One / 2, Start: ints(1, 2), Stop: ints(0, 1)},
				{Name: "b", Count: 64, Thrust: api.Span{Lo: 1, Hi: 3}, Flow: api.Span{Lo: api.One / 4, Hi: api.One / 4}, Least: api.One / 4},
			}},
			{Name: "top", Dry: ints(1, 2), Prop: ints(0, 0), Engines: []api.Engine{
				{Name: "c", Count: 1, Thrust: ints(1, 1), Flow: ints(2, 3), Least: api.One, Start: ints(5, 5), Stop: ints(6, 7)},
			}},
		},
		Payload: api.Span{Lo: api.One / 2, Hi: 3 * api.One / 2},
		Drag:    []api.Point{{At: 0, Value: ints(1, 1)}, {At: api.One, Value: ints(2, 3)}},
		Axial:   api.One / 16,
		Bending: 35000 * api.One,
	}
}

// copied returns a copy of a vehicle that shares no memory with it.
func copied(v api.Vehicle) api.Vehicle {
	v.Drag = append([]api.Point{}, v.Drag...)
	v.Stages = append([]api.Stage{}, v.Stages...)
	for i, s := range v.Stages {
		v.Stages[i].Engines = append([]api.Engine{}, s.Engines...)
	}
	return v
}

// sameVehicle reports whether two vehicles are equal; an empty list is a nil one.
func sameVehicle(a, b api.Vehicle) bool {
	if a.Name != b.Name || a.Payload != b.Payload || a.Axial != b.Axial || a.Bending != b.Bending || len(a.Stages) != len(b.Stages) || len(a.Drag) != len(b.Drag) {
		return false
	}
	for i, p := range a.Drag {
		if p != b.Drag[i] {
			return false
		}
	}
	for i, s := range a.Stages {
		u := b.Stages[i]
		if s.Name != u.Name || s.Dry != u.Dry || s.Prop != u.Prop || len(s.Engines) != len(u.Engines) {
			return false
		}
		for k, x := range s.Engines {
			if x != u.Engines[k] {
				return false
			}
		}
	}
	return true
}

// randomNum returns a number from least to the greatest one of a vehicle.
func randomNum(r *rand.Rand, least api.Num) api.Num {
	return max(least, api.Num(r.Int64N(int64(api.MaxPlace)+1))>>r.IntN(53))
}

// randomAmount returns bounds from least to the greatest number of a vehicle.
func randomAmount(r *rand.Rand, least api.Num) api.Span {
	a, b := randomNum(r, least), randomNum(r, least)
	if r.IntN(3) == 0 {
		b = a
	}
	return api.Span{Lo: min(a, b), Hi: max(a, b)}
}

// randomVehicle returns a valid vehicle.
func randomVehicle(r *rand.Rand) api.Vehicle {
	v := api.Vehicle{Name: "random-1", Payload: randomAmount(r, 0), Axial: randomNum(r, 1), Bending: randomNum(r, 1)}
	for i := range r.IntN(api.MaxStages) + 1 {
		s := api.Stage{Name: "s" + strconv.Itoa(i), Dry: randomAmount(r, 1), Prop: randomAmount(r, 0)}
		for k := range r.IntN(4) {
			s.Engines = append(s.Engines, api.Engine{
				Name: "e" + strconv.Itoa(i) + "-" + strconv.Itoa(k), Count: r.IntN(api.MaxCount) + 1,
				Thrust: randomAmount(r, 1), Flow: randomAmount(r, 1), Least: api.Num(r.Int64N(1<<32 + 1)), Start: randomAmount(r, 0), Stop: randomAmount(r, 0),
			})
		}
		v.Stages = append(v.Stages, s)
	}
	at := api.Num(0)
	for range r.IntN(5) + 1 {
		v.Drag = append(v.Drag, api.Point{At: at, Value: randomAmount(r, 0)})
		at += api.Num(r.Int64N(1<<40)) + 1
	}
	return v
}

// isQuantity fails unless a result and its error are what is wanted.
func isQuantity(t *testing.T, what string, got api.Quantity, e api.Errno, want api.Quantity, f api.Errno) {
	t.Helper()
	if got != want || e != f {
		t.Errorf("%s: %v, error %d; want %v, error %d", what, got, e, want, f)
	}
}

// isSpan fails unless a result and its error are what is wanted.
func isSpan(t *testing.T, what string, got api.Span, e api.Errno, want api.Span, f api.Errno) {
	t.Helper()
	if got != want || e != f {
		t.Errorf("%s: %v, error %d; want %v, error %d", what, got, e, want, f)
	}
}
