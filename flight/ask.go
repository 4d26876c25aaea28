package flight

import (
	"ullage/api"
	"ullage/span"
)

// Height returns the heights of places.
func Height(p api.Planet, place api.Box) (api.Span, api.Errno) {
	if CheckPlanet(p) != api.OK || !areValid(place[:]...) {
		return api.Span{}, api.ErrArg
	}
	var f formula
	return f.result(f.height(p, place))
}

// Speed returns the lengths of velocities.
func Speed(v api.Box) (api.Span, api.Errno) {
	return span.Norm(v[:])
}

// Climb returns how fast something goes away from the centre.
func Climb(place, v api.Box) (api.Span, api.Errno) {
	if !areValid(place[:]...) || !areValid(v[:]...) {
		return api.Span{}, api.ErrArg
	}
	var f formula
	return f.result(f.div(f.dot(place, v), f.norm(place)))
}

// Pressure returns the dynamic pressures in a tube.
func Pressure(p api.Planet, density []api.Point, t api.Tube) (api.Span, api.Errno) {
	if CheckPlanet(p) != api.OK || checkTube(t) != api.OK || span.CheckTable(density) != api.OK {
		return api.Span{}, api.ErrArg
	}
	var f formula
	h := f.height(p, t.P)
	a := f.norm(t.V)
	return f.result(f.div(f.mul(f.look(density, h), f.square(a)), point(2*api.One)))
}

// Rises returns the first tubes that may be, and that surely are, at least so high.
func Rises(p api.Planet, l []api.Tube, height api.Num) (may, sure int, e api.Errno) {
	if e := checkRises(p, l, height); e != api.OK {
		return 0, 0, e
	}
	may, sure = -1, -1
	for i, t := range l {
		var f formula
		h := f.height(p, t.P)
		if f.e != api.OK {
			return 0, 0, f.e
		}
		if may < 0 && h.Hi >= height {
			may = i
		}
		if sure < 0 && h.Lo >= height {
			sure = i
		}
	}
	if may < 0 {
		return 0, 0, api.ErrNone
	}
	return may, sure, api.OK
}

// Inside reports whether a state surely is, and whether it may be, within boxes.
func Inside(s api.State, place, v api.Box) (sure, may bool) {
	if CheckState(s) != api.OK || !areValid(place[:]...) || !areValid(v[:]...) {
		return false, false
	}
	is, in := boxes{s.P, s.V}, boxes{place, v}
	sure, may = true, true
	for k := range is {
		for i, a := range is[k] {
			sure = sure && span.Within(a, in[k][i])
			may = may && span.Order(a, in[k][i]) == 0
		}
	}
	return sure, may
}

// Joint returns what two states have in common.
func Joint(a, b api.State) (api.State, api.Errno) {
	if CheckState(a) != api.OK || CheckState(b) != api.OK {
		return api.State{}, api.ErrArg
	}
	if a.T != b.T {
		return api.State{}, api.ErrState
	}
	var f formula
	both := api.State{T: a.T, M: f.keep(span.Meet(a.M, b.M))}
	for i := range both.P {
		both.P[i] = f.keep(span.Meet(a.P[i], b.P[i]))
		both.V[i] = f.keep(span.Meet(a.V[i], b.V[i]))
	}
	if f.e != api.OK {
		return api.State{}, f.e
	}
	return both, api.OK
}

// checkRises returns ErrArg unless the arguments of Rises are valid.
func checkRises(p api.Planet, l []api.Tube, height api.Num) api.Errno {
	if CheckPlanet(p) != api.OK || !isNumber(height) {
		return api.ErrArg
	}
	for _, t := range l {
		if e := checkTube(t); e != api.OK {
			return e
		}
	}
	return api.OK
}

// height returns the heights of places over a planet.
func (f *formula) height(p api.Planet, place api.Box) api.Span {
	return f.sub(f.norm(place), p.Radius)
}
