package steer

import (
	"ullage/api"
	"ullage/span"
)

// Law returns an acceleration that brings a height and a speed to others.
func Law(h, v, to, at api.Span, time api.Num) (c0, c1 api.Span, e api.Errno) {
	if !areSpans(h, v, to, at) || time <= 0 {
		return api.Span{}, api.Span{}, api.ErrArg
	}
	var f formula
	t := point(time)
	d := f.sub(f.sub(to, h), f.mul(v, t))
	s := f.sub(at, v)
	y := f.div(f.div(d, t), t)
	z := f.div(s, t)
	c0 = f.sub(f.scale(y, 6), f.scale(z, 2))
	c1 = f.sub(f.scale(f.div(z, t), 6), f.scale(f.div(y, t), 12))
	return f.two(c0, c1)
}

// Due returns the height and the speed after a time.
func Due(h, v, c0, c1 api.Span, time api.Num) (place, speed api.Span, e api.Errno) {
	if !areSpans(h, v, c0, c1) || time <= 0 {
		return api.Span{}, api.Span{}, api.ErrArg
	}
	var f formula
	t, two, six := point(time), point(2*api.One), point(6*api.One)
	s := f.mul(t, t)
	place = f.add(f.add(f.add(h, f.mul(v, t)), f.div(f.mul(c0, s), two)), f.div(f.mul(f.mul(c1, s), t), six))
	speed = f.add(f.add(v, f.mul(c0, t)), f.div(f.mul(c1, s), two))
	return f.two(place, speed)
}

// two returns two results of a formula, or its error.
func (f *formula) two(a, b api.Span) (api.Span, api.Span, api.Errno) {
	if f.e != api.OK {
		return api.Span{}, api.Span{}, f.e
	}
	return a, b, api.OK
}

// Lift returns the speed that a direction leads to.
func Lift(v, push, pull api.Span, time api.Num, t api.Span) (api.Span, api.Errno) {
	l := lifter{v: v, push: push, pull: pull, time: time}
	if !l.isValid() {
		return api.Span{}, api.ErrArg
	}
	return l.lift(t)
}

// Aim returns the directions that may lead to a speed.
func Aim(v, push, pull api.Span, time, want api.Num, rounds int) (t api.Span, used int, e api.Errno) {
	l := lifter{v: v, push: push, pull: pull, time: time}
	if !l.isValid() || !isNumber(want) || rounds < 0 || rounds > api.MaxRounds {
		return api.Span{}, 0, api.ErrArg
	}
	most, e := l.lift(point(api.One))
	if e != api.OK {
		return api.Span{}, 0, e
	}
	least, e := l.lift(point(-api.One))
	if e != api.OK {
		return api.Span{}, 0, e
	}
	if span.Order(most, point(want)) == below || span.Order(least, point(want)) == above {
		return api.Span{}, 0, api.ErrNone
	}
	t, used = l.aim(want, rounds)
	return t, used, api.OK
}

// lifter is what is lifted: a speed, what pushes it and what pulls it, and for how long.
type lifter struct {
	v, push, pull api.Span
	time          api.Num
}

// isValid reports whether Lift and Aim take what is lifted.
func (l lifter) isValid() bool {
	return areSpans(l.v, l.push, l.pull) && l.time >= 0 && l.push.Lo >= 0
}

// lift returns the speed that a direction leads to.
func (l lifter) lift(t api.Span) (api.Span, api.Errno) {
	_, s, e := span.Turn(t)
	if e != api.OK {
		return api.Span{}, e
	}
	var f formula
	speed := f.add(l.v, f.mul(f.sub(f.mul(l.push, s), l.pull), point(l.time)))
	if f.e != api.OK {
		return api.Span{}, f.e
	}
	return speed, api.OK
}

// aim narrows the directions that may lead to a speed. A direction between -1 and 1 leads to a speed between theirs, so that none has an error if these two have none.
func (l lifter) aim(want api.Num, rounds int) (t api.Span, used int) {
	t = api.Span{Lo: -api.One, Hi: api.One}
	for used < rounds && t.Hi-t.Lo >= 2 {
		used++
		mid, _ := span.Mid(t)
		speed, _ := l.lift(point(mid))
		switch span.Order(speed, point(want)) {
		case below:
			t.Lo = mid
		case above:
			t.Hi = mid
		case open:
			return t, used
		}
	}
	return t, used
}
