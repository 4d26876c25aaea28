package flight

import (
	"iter"
	"slices"

	"ullage/api"
)

// Steps returns how many steps an arc has.
func Steps(a api.Arc) (int, api.Errno) {
	if e := CheckArc(a); e != api.OK {
		return 0, e
	}
	n := count(a)
	if n > api.MaxFlown {
		return 0, api.ErrLong
	}
	return int(n), api.OK
}

// Fly flies along arcs.
func Fly(p api.Planet, l []api.Arc, s api.State) (stops []api.State, tubes []api.Tube, e api.Errno) {
	f, e := begin(p, l, s)
	if e != api.OK {
		return nil, nil, e
	}
	for _, a := range l {
		f.along(a, onward(a))
		f.now.M = f.above0(f.sub(f.now.M, a.Drop))
		if f.e != api.OK {
			return nil, nil, f.e
		}
		f.stops = append(f.stops, f.now)
	}
	return f.stops, f.tubes, api.OK
}

// Back flies back along arcs.
func Back(p api.Planet, l []api.Arc, s api.State) (stops []api.State, tubes []api.Tube, e api.Errno) {
	f, e := begin(p, l, s)
	if e != api.OK {
		return nil, nil, e
	}
	for _, a := range slices.Backward(l) {
		f.now.M = f.add(f.now.M, a.Drop)
		f.along(a, homeward(a))
		if f.e != api.OK {
			return nil, nil, f.e
		}
		f.stops = append(f.stops, f.now)
	}
	return f.stops, f.tubes, api.OK
}

// journey is what has been flown so far.
type journey struct {
	model
	now   api.State
	stops []api.State
	tubes []api.Tube
}

// begin returns a journey along arcs of which nothing has been flown, or the error of its arguments.
func begin(p api.Planet, l []api.Arc, s api.State) (*journey, api.Errno) {
	if e := checkFlight(p, l, s); e != api.OK {
		return nil, e
	}
	if len(l) > api.MaxArcs {
		return nil, api.ErrLong
	}
	left := api.Num(api.MaxFlown)
	for _, a := range l {
		n := count(a)
		if n > left {
			return nil, api.ErrLong
		}
		left -= n
	}
	return &journey{model: model{planet: p}, now: s}, api.OK
}

// along does steps of an arc, up to the first error.
func (f *journey) along(a api.Arc, lengths iter.Seq[api.Num]) {
	f.arc = a
	for h := range lengths {
		next, tube := f.step(f.now, h)
		if f.e != api.OK {
			return
		}
		f.now = next
		f.tubes = append(f.tubes, tube)
	}
}

// count returns how many steps a valid arc has.
func count(a api.Arc) api.Num {
	n := a.Time / a.Step
	if a.Time%a.Step != 0 {
		n++
	}
	return n
}

// onward returns the lengths of the steps of an arc.
func onward(a api.Arc) iter.Seq[api.Num] {
	return func(yield func(api.Num) bool) {
		for range a.Time / a.Step {
			if !yield(a.Step) {
				return
			}
		}
		if rest := a.Time % a.Step; rest != 0 {
			yield(rest)
		}
	}
}

// homeward returns the lengths of the steps of an arc on the way back: the same ones, below 0, the last one first.
func homeward(a api.Arc) iter.Seq[api.Num] {
	return func(yield func(api.Num) bool) {
		if rest := a.Time % a.Step; rest != 0 && !yield(-rest) {
			return
		}
		for range a.Time / a.Step {
			if !yield(-a.Step) {
				return
			}
		}
	}
}
