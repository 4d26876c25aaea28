package vehicle

import "ullage/api"

// unitTable is the units, in their order.
var unitTable = [...]api.Unit{
	{Name: "km", Is: api.Quantity{Num: 1, Den: 1, Km: 1}},
	{Name: "m", Is: api.Quantity{Num: 1, Den: 1000, Km: 1}},
	{Name: "cm", Is: api.Quantity{Num: 1, Den: 100000, Km: 1}},
	{Name: "s", Is: api.Quantity{Num: 1, Den: 1, S: 1}},
	{Name: "ms", Is: api.Quantity{Num: 1, Den: 1000, S: 1}},
	{Name: "min", Is: api.Quantity{Num: 60, Den: 1, S: 1}},
	{Name: "h", Is: api.Quantity{Num: 3600, Den: 1, S: 1}},
	{Name: "t", Is: api.Quantity{Num: 1, Den: 1, T: 1}},
	{Name: "kg", Is: api.Quantity{Num: 1, Den: 1000, T: 1}},
	{Name: "MN", Is: api.Quantity{Num: 1, Den: 1, Km: 1, S: -2, T: 1}},
	{Name: "kN", Is: api.Quantity{Num: 1, Den: 1000, Km: 1, S: -2, T: 1}},
	{Name: "N", Is: api.Quantity{Num: 1, Den: 1000000, Km: 1, S: -2, T: 1}},
	{Name: "Pa", Is: api.Quantity{Num: 1, Den: 1, Km: -1, S: -2, T: 1}},
	{Name: "kPa", Is: api.Quantity{Num: 1000, Den: 1, Km: -1, S: -2, T: 1}},
}

// Units returns the units.
func Units() []api.Unit {
	units := unitTable
	return units[:]
}

// unitNamed returns what a unit is, and whether there is one of that name.
func unitNamed(name string) (api.Quantity, bool) {
	for _, u := range unitTable {
		if u.Name == name {
			return u.Is, true
		}
	}
	return api.Quantity{}, false
}

// dimension is the exponents of km, s and t.
type dimension [3]int

func dimensionOf(q api.Quantity) dimension {
	return dimension{q.Km, q.S, q.T}
}

// measure is what a number of a vehicle measures.
type measure int

const (
	noMeasure measure = iota
	ofMass
	ofThrust
	ofFlow
	ofTime
	ofSpeed
	ofArea
	ofAcceleration
	ofPressure
)

// measures has the dimension of each measure, and the unit in which it is printed.
var measures = [...]struct {
	is   dimension
	unit string
}{
	noMeasure:      {dimension{}, ""},
	ofMass:         {dimension{0, 0, 1}, " t"},
	ofThrust:       {dimension{1, -2, 1}, " MN"},
	ofFlow:         {dimension{0, -1, 1}, " t / s"},
	ofTime:         {dimension{0, 1, 0}, " s"},
	ofSpeed:        {dimension{1, -1, 0}, " km / s"},
	ofArea:         {dimension{2, 0, 0}, " km * km"},
	ofAcceleration: {dimension{1, -2, 0}, " km / s / s"},
	ofPressure:     {dimension{-1, -2, 1}, " Pa"},
}

// measuredAs reports whether a quantity has the dimension of a measure.
func measuredAs(q api.Quantity, as measure) bool {
	return dimensionOf(q) == measures[as].is
}
