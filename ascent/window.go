package ascent

import "ullage/api"

// Contains reports whether a window contains a time.
func Contains(w api.Window, t int) bool {
	return isWindow(w) && since(w, t) < w.Len
}

// Slots returns the times of a window between two times.
func Slots(w api.Window, from, to int) ([]api.Slot, api.Errno) {
	if !isWindow(w) || !isInstant(from) || !isInstant(to) || from > to {
		return nil, api.ErrArg
	}
	switch {
	case w.Len == 0 || from == to:
		return nil, api.OK
	case w.Len == w.Period:
		// The slots of all periods touch, so they are one.
		return []api.Slot{{From: from, To: to}}, api.OK
	}
	var l []api.Slot
	for begin := from - since(w, from); begin < to; begin += w.Period {
		s := api.Slot{From: max(begin, from), To: min(begin+w.Len, to)}
		if s.From >= s.To {
			continue
		}
		if len(l) == api.MaxSlots {
			return nil, api.ErrLong
		}
		l = append(l, s)
	}
	return l, api.OK
}

// Often returns how many times of a common period are in both windows.
func Often(a, b api.Window) (int, api.Errno) {
	if !isWindow(a) || !isWindow(b) {
		return 0, api.ErrArg
	}
	return often(a, b), api.OK
}

// Next returns the first time from t on that is in both windows.
func Next(a, b api.Window, t int) (int, api.Errno) {
	if !isWindow(a) || !isWindow(b) || !isInstant(t) {
		return 0, api.ErrArg
	}
	if often(a, b) == 0 {
		return 0, api.ErrNone
	}
	if Contains(a, t) && Contains(b, t) {
		return t, api.OK
	}
	// The first time in both behind one that is not is the first one of a slot of one of the windows.
	first, there := beginning(a, b, t)
	if n, also := beginning(b, a, t); also && (!there || n < first) {
		first = n
	}
	return first, api.OK
}

// isWindow reports whether w is valid.
func isWindow(w api.Window) bool {
	return 1 <= w.Period && w.Period <= api.MaxPeriod && -api.MaxPeriod <= w.From && w.From <= api.MaxPeriod && 0 <= w.Len && w.Len <= w.Period
}

// isInstant reports whether a time is in the range of times.
func isInstant(t int) bool {
	return -api.MaxInstant <= t && t <= api.MaxInstant
}

// modulo returns n modulo a divisor, from 0 on.
func modulo(n, by int) int {
	return (n%by + by) % by
}

// since returns how long before a time a period of a window has begun. The time may be any int, from which From cannot be taken.
func since(w api.Window, t int) int {
	return modulo(t%w.Period-w.From, w.Period)
}

// divisor returns the greatest common divisor.
func divisor(a, b int) int {
	for b != 0 {
		a, b = b, a%b
	}
	return a
}

// often returns how many times of a common period are in both windows. There is one for each pair of times, one of a slot of each window, that are the same modulo the greatest common divisor of the periods.
func often(a, b api.Window) int {
	g := divisor(a.Period, b.Period)
	rounds, rest := a.Len/g, a.Len%g
	otherRounds, otherRest := b.Len/g, b.Len%g
	whole := g*rounds*otherRounds + rounds*otherRest + otherRounds*rest
	// The rests are slots modulo g, in which the one of b comes again g later.
	late := modulo(a.From-b.From, g)
	return whole + shared(late, late+rest, 0, otherRest) + shared(late, late+rest, g, g+otherRest)
}

// shared returns how many times two slots have in common.
func shared(from, to, otherFrom, otherTo int) int {
	return max(0, min(to, otherTo)-max(from, otherFrom))
}

// beginning returns the first time from t on with which a period of a begins and that is in b, if there is one.
func beginning(a, b api.Window, t int) (first int, there bool) {
	first = t + modulo(-since(a, t), a.Period)
	late := since(b, first)
	if late < b.Len {
		return first, true
	}
	periods, there := multiple(a.Period%b.Period, b.Period, b.Period-late, b.Period-late+b.Len-1)
	return first + periods*a.Period, there
}

// multiple returns the least n, if there is one, for which n step, modulo a divisor, is from low to high. The step is below the divisor, and so are low and high, which are above 0.
func multiple(step, by, low, high int) (n int, there bool) {
	if step == 0 {
		return 0, false
	}
	if n = upward(low, step); n*step <= high {
		return n, true
	}
	// No multiple of step is from low to high: n step passes the divisor some times. How often, at least, is the same question for what is left of the divisor, modulo step.
	times, there := multiple(by%step, step, step-high%step, step-low%step)
	if !there {
		return 0, false
	}
	return upward(low+times*by, step), true
}

// upward returns a / b, rounded up, of numbers above 0.
func upward(a, b int) int {
	return (a + b - 1) / b
}
