package steer

import (
	"cmp"
	"math/bits"

	"ullage/api"
	"ullage/span"
)

// maxWant is the greatest torque that may be wanted about an axis.
const maxWant = 1 << 24

// Mix returns the jets that make a torque best.
func Mix(l []api.Jet, failed int, want [3]int) (on int, rest [3]int, e api.Errno) {
	if e := checkJets(l, failed); e != api.OK {
		return 0, [3]int{}, e
	}
	if !areUpTo(maxWant, want) {
		return 0, [3]int{}, api.ErrArg
	}
	best := choice{rest: want}
	var try func(i int, c choice)
	try = func(i int, c choice) {
		if i == len(l) {
			if c.isBetter(best) {
				best = c
			}
			return
		}
		try(i+1, c)
		if !has(failed, i) {
			try(i+1, c.with(i, l[i]))
		}
	}
	try(0, best)
	return best.on, best.rest, api.OK
}

// Spans reports whether the jets that have not failed span the space.
func Spans(l []api.Jet, failed int) (bool, api.Errno) {
	if e := checkJets(l, failed); e != api.OK {
		return false, e
	}
	return spanSpace(working(l, failed)), api.OK
}

// Safe reports whether jets span the space without any one of them.
func Safe(l []api.Jet) (bool, api.Errno) {
	if e := checkJets(l, 0); e != api.OK {
		return false, e
	}
	for i := range l {
		if !spanSpace(working(l, 1<<i)) {
			return false, api.OK
		}
	}
	return len(l) > 0, api.OK
}

// Swivel returns the angle of gimbals, and what is short.
func Swivel(thrust []api.Span, failed int, arm api.Span, limit, want api.Num) (angle, short api.Span, e api.Errno) {
	if len(thrust) > api.MaxJets {
		return api.Span{}, api.Span{}, api.ErrLong
	}
	if !areThrusts(thrust) || span.Sign(arm) != above || !isNumber(want) || limit < 0 || !isMask(failed, len(thrust)) {
		return api.Span{}, api.Span{}, api.ErrArg
	}
	on := working(thrust, failed)
	if mayBeNone(on) {
		return api.Span{}, api.Span{}, api.ErrZero
	}
	var f formula
	sum := f.keep(span.Sum(on))
	exact := f.div(f.div(point(want), sum), arm)
	angle = f.keep(span.Most(point(-limit), f.keep(span.Least(point(limit), exact))))
	short = f.sub(point(want), f.mul(f.mul(sum, arm), angle))
	return f.two(angle, short)
}

// checkJets returns ErrLong or ErrArg unless jets and a mask of them are valid.
func checkJets(l []api.Jet, mask int) api.Errno {
	if len(l) > api.MaxJets {
		return api.ErrLong
	}
	for _, j := range l {
		if !areUpTo(api.MaxTorque, j.Torque) {
			return api.ErrArg
		}
	}
	if !isMask(mask, len(l)) {
		return api.ErrArg
	}
	return api.OK
}

// areUpTo reports whether all numbers are from -most to most.
func areUpTo(most int, l [3]int) bool {
	for _, n := range l {
		if n < -most || n > most {
			return false
		}
	}
	return true
}

// isMask reports whether a mask has bits of the first n only.
func isMask(mask, n int) bool {
	return mask>>n == 0
}

// has reports whether a mask has a bit.
func has(mask, i int) bool {
	return mask>>i&1 == 1
}

// working returns those of a list that have not failed.
func working[T any](l []T, failed int) []T {
	var on []T
	for i, a := range l {
		if !has(failed, i) {
			on = append(on, a)
		}
	}
	return on
}

// choice is a mask of jets that are on, and what they leave over.
type choice struct {
	on   int
	rest [3]int
}

// with returns a choice with one more jet.
func (c choice) with(i int, j api.Jet) choice {
	c.on |= 1 << i
	for axis, n := range j.Torque {
		c.rest[axis] -= n
	}
	return c
}

// isBetter reports whether c leaves less over than d; or as much, but has fewer jets; or as many, but is the lesser mask.
func (c choice) isBetter(d choice) bool {
	return cmp.Or(
		cmp.Compare(dot(c.rest, c.rest), dot(d.rest, d.rest)),
		cmp.Compare(bits.OnesCount(uint(c.on)), bits.OnesCount(uint(d.on))),
		cmp.Compare(c.on, d.on),
	) < 0
}

// spanSpace reports whether jets span the space. If they do not, but lie in no plane, the directions that none of them helps are a cone with edges, and at an edge two of the torques are at right angles to it. If they lie in a plane, what is at right angles to the plane is found likewise, unless they all lie in one line.
func spanSpace(l []api.Jet) bool {
	found := false
	for i, a := range l {
		for _, b := range l[:i] {
			edge := cross(a.Torque, b.Torque)
			if edge == [3]int{} {
				continue
			}
			found = true
			if !helpsBothWays(l, edge) {
				return false
			}
		}
	}
	return found
}

// helpsBothWays reports whether one jet has a torque along a direction, and one has a torque against it.
func helpsBothWays(l []api.Jet, direction [3]int) bool {
	along, against := false, false
	for _, j := range l {
		product := dot(j.Torque, direction)
		along = along || product > 0
		against = against || product < 0
	}
	return along && against
}

// cross returns what is at right angles to both.
func cross(a, b [3]int) [3]int {
	return [3]int{a[1]*b[2] - a[2]*b[1], a[2]*b[0] - a[0]*b[2], a[0]*b[1] - a[1]*b[0]}
}

// dot returns the scalar product.
func dot(a, b [3]int) int {
	return a[0]*b[0] + a[1]*b[1] + a[2]*b[2]
}

// areThrusts reports whether all spans of a list are valid, and have no negative number.
func areThrusts(l []api.Span) bool {
	for _, a := range l {
		if !areSpans(a) || a.Lo < 0 {
			return false
		}
	}
	return true
}

// mayBeNone reports whether the sum of thrusts contains 0. A sum that does not fit is an error only behind that.
func mayBeNone(l []api.Span) bool {
	for _, a := range l {
		if a.Lo > 0 {
			return false
		}
	}
	return true
}
