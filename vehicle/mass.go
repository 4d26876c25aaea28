package vehicle

import (
	"iter"

	"ullage/api"
	"ullage/span"
)

// Total returns the mass of a vehicle at the beginning.
func Total(v api.Vehicle) (api.Span, api.Errno) {
	if _, _, e := Check(v); e != api.OK {
		return api.Span{}, api.ErrArg
	}
	return sum(masses(v, 0, api.Span{})), api.OK
}

// Mass returns the mass of what still flies, when some stages are gone and some propellant of the next one is used.
func Mass(v api.Vehicle, gone int, used api.Span) (api.Span, api.Errno) {
	if e := checkIndex(v, gone); e != api.OK {
		return api.Span{}, e
	}
	if used.Lo < 0 || used.Lo > used.Hi {
		return api.Span{}, api.ErrArg
	}
	return sum(masses(v, gone, used)), api.OK
}

// Thrust returns the thrust of a stage.
func Thrust(v api.Vehicle, stage int, level api.Span) (api.Span, api.Errno) {
	return atLevel(v, stage, level, func(x api.Engine) api.Span { return x.Thrust })
}

// Flow returns the flow of a stage.
func Flow(v api.Vehicle, stage int, level api.Span) (api.Span, api.Errno) {
	return atLevel(v, stage, level, flowOf)
}

// Burn returns how long a stage burns.
func Burn(v api.Vehicle, stage int) (api.Span, api.Errno) {
	if e := checkIndex(v, stage); e != api.OK {
		return api.Span{}, e
	}
	s := v.Stages[stage]
	if len(s.Engines) == 0 {
		return api.Span{}, api.ErrState
	}
	return span.Div(s.Prop, sum(ofEngines(s, flowOf)))
}

// Drag returns the drag area at a speed.
func Drag(v api.Vehicle, speed api.Span) (api.Span, api.Errno) {
	if _, _, e := Check(v); e != api.OK {
		return api.Span{}, api.ErrArg
	}
	return span.Look(v.Drag, speed)
}

// masses returns all that flies, when some stages are gone and some propellant of the next one is used.
func masses(v api.Vehicle, gone int, used api.Span) iter.Seq[api.Span] {
	return func(yield func(api.Span) bool) {
		if !yield(v.Payload) {
			return
		}
		for i, s := range v.Stages[gone:] {
			prop := s.Prop
			if i == 0 {
				prop = api.Span{Lo: max(0, prop.Lo-used.Hi), Hi: max(0, prop.Hi-used.Lo)}
			}
			if !yield(s.Dry) || !yield(prop) {
				return
			}
		}
	}
}

// ofEngines returns Count times what each engine of a stage has.
func ofEngines(s api.Stage, of func(api.Engine) api.Span) iter.Seq[api.Span] {
	return func(yield func(api.Span) bool) {
		for _, x := range s.Engines {
			one, count := of(x), api.Num(x.Count)
			if !yield(api.Span{Lo: count * one.Lo, Hi: count * one.Hi}) {
				return
			}
		}
	}
}

func flowOf(x api.Engine) api.Span {
	return x.Flow
}

// sum returns the sum of spans of a valid vehicle, which is at most 2^62: 16 times 64 engines of 2^52.
func sum(parts iter.Seq[api.Span]) api.Span {
	var all api.Span
	for part := range parts {
		all.Lo += part.Lo
		all.Hi += part.Hi
	}
	return all
}

// atLevel returns what all engines of a stage have together, at one level.
func atLevel(v api.Vehicle, stage int, level api.Span, of func(api.Engine) api.Span) (api.Span, api.Errno) {
	if e := checkIndex(v, stage); e != api.OK {
		return api.Span{}, e
	}
	s := v.Stages[stage]
	if !isLevel(level, s) {
		return api.Span{}, api.ErrRange
	}
	return span.Mul(level, sum(ofEngines(s, of)))
}

// isLevel reports whether the engines of a stage can run at all levels of a span, or are to be off.
func isLevel(level api.Span, s api.Stage) bool {
	if level.Lo < 0 || level.Lo > level.Hi || level.Hi > api.One {
		return false
	}
	for _, x := range s.Engines {
		if level.Hi != 0 && level.Lo < x.Least {
			return false
		}
	}
	return true
}
