package steer

import (
	"ullage/api"
	"ullage/span"
)

// CheckFilter returns ErrLong or ErrArg unless a filter is valid.
func CheckFilter(l []api.Section) api.Errno {
	if len(l) > api.MaxSections {
		return api.ErrLong
	}
	for _, s := range l {
		for _, n := range [...]api.Num{s.B0, s.B1, s.B2, s.A1, s.A2} {
			if n < -api.MaxFactor || n > api.MaxFactor {
				return api.ErrArg
			}
		}
	}
	return api.OK
}

// Run returns what a filter makes of samples.
func Run(l []api.Section, x []api.Num) ([]api.Num, api.Errno) {
	if e := CheckFilter(l); e != api.OK {
		return nil, e
	}
	if len(x) > api.MaxSamples {
		return nil, api.ErrLong
	}
	for _, n := range x {
		if !isNumber(n) {
			return nil, api.ErrArg
		}
	}
	var each []maker[api.Num]
	for _, s := range l {
		running := runner{factors: s}
		each = append(each, running.next)
	}
	return pass(each, x)
}

// Reach returns where what filters make is.
func Reach(l []api.Loose, x []api.Span) ([]api.Span, api.Errno) {
	if len(l) > api.MaxSections || len(x) > api.MaxSamples {
		return nil, api.ErrLong
	}
	for _, s := range l {
		if !isLoose(s) {
			return nil, api.ErrArg
		}
	}
	if !areSpans(x...) {
		return nil, api.ErrArg
	}
	var each []maker[api.Span]
	for _, s := range l {
		reaching := reacher{factors: s}
		each = append(each, reaching.next)
	}
	return pass(each, x)
}

// Steady returns whether sections forget their past.
func Steady(a1, a2 api.Span) int {
	var f formula
	one := point(api.One)
	l := [...]api.Span{f.sub(one, a2), f.add(f.add(one, a1), a2), f.add(f.sub(one, a1), a2)}
	if f.e != api.OK {
		return open
	}
	worst := above
	for _, a := range l {
		worst = min(worst, span.Sign(a))
	}
	return worst
}

// isLoose reports whether a loose section is valid.
func isLoose(s api.Loose) bool {
	all := api.Span{Lo: -api.MaxFactor, Hi: api.MaxFactor}
	for _, a := range [...]api.Span{s.B0, s.B1, s.B2, s.A1, s.A2} {
		if !span.Within(a, all) {
			return false
		}
	}
	return true
}

// maker makes a sample of the next one that comes in.
type maker[T any] func(x T) (T, api.Errno)

// pass passes samples through all sections.
func pass[T any](each []maker[T], x []T) ([]T, api.Errno) {
	var l []T
	for _, a := range x {
		for _, one := range each {
			var e api.Errno
			if a, e = one(a); e != api.OK {
				return nil, e
			}
		}
		l = append(l, a)
	}
	return l, api.OK
}

// delays is the last sample, and the one before it. Before the first one all are 0.
type delays[T any] [2]T

// move moves the delays on by a sample.
func (d *delays[T]) move(x T) {
	d[0], d[1] = x, d[0]
}

// runner is a section with the samples that it knows: what came in, and what it made.
type runner struct {
	factors    api.Section
	came, made delays[api.Num]
}

// next makes the next sample.
func (r *runner) next(x api.Num) (api.Num, api.Errno) {
	var t total
	t.add(r.factors.B0, x)
	t.add(r.factors.B1, r.came[0])
	t.add(r.factors.B2, r.came[1])
	t.add(-r.factors.A1, r.made[0])
	t.add(-r.factors.A2, r.made[1])
	y, e := t.number()
	r.came.move(x)
	r.made.move(y)
	return y, e
}

// reacher is a loose section with the spans that it knows: what came in, and what it made.
type reacher struct {
	factors    api.Loose
	came, made delays[api.Span]
}

// next makes the span of the next sample.
func (r *reacher) next(x api.Span) (api.Span, api.Errno) {
	var f formula
	y := f.add(f.add(f.mul(r.factors.B0, x), f.mul(r.factors.B1, r.came[0])), f.mul(r.factors.B2, r.came[1]))
	y = f.sub(f.sub(y, f.mul(r.factors.A1, r.made[0])), f.mul(r.factors.A2, r.made[1]))
	r.came.move(x)
	r.made.move(y)
	return y, f.e
}
