package ascent

import (
	"cmp"

	"ullage/api"
)

// Both returns the times in both sets.
func Both(a, b []api.Slot) ([]api.Slot, api.Errno) {
	return merged(a, b, func(inA, inB bool) bool {
		return inA && inB
	})
}

// Either returns the times in one of two sets at least.
func Either(a, b []api.Slot) ([]api.Slot, api.Errno) {
	return merged(a, b, func(inA, inB bool) bool {
		return inA || inB
	})
}

// Without returns the times in a and not in b.
func Without(a, b []api.Slot) ([]api.Slot, api.Errno) {
	return merged(a, b, func(inA, inB bool) bool {
		return inA && !inB
	})
}

// Total returns how many times a set contains.
func Total(l []api.Slot) (int, api.Errno) {
	if !isSet(l) {
		return 0, api.ErrArg
	}
	sum := 0
	for _, s := range l {
		sum += s.To - s.From
	}
	return sum, api.OK
}

// isSet reports whether a set of times is valid.
func isSet(l []api.Slot) bool {
	if len(l) > api.MaxSlots {
		return false
	}
	for i, s := range l {
		if !isInstant(s.From) || !isInstant(s.To) || s.From >= s.To || i > 0 && s.From <= l[i-1].To {
			return false
		}
	}
	return true
}

// merged returns the set of the times that are kept of two sets.
func merged(a, b []api.Slot, keep func(inA, inB bool) bool) ([]api.Slot, api.Errno) {
	if !isSet(a) || !isSet(b) {
		return nil, api.ErrArg
	}
	ends := merge(endsOf(a), endsOf(b), keep)
	if len(ends) > 2*api.MaxSlots {
		return nil, api.ErrLong
	}
	var l []api.Slot
	for i := 0; i < len(ends); i += 2 {
		l = append(l, api.Slot{From: ends[i], To: ends[i+1]})
	}
	return l, api.OK
}

// endsOf returns where the slots of a set begin and end, in rising order.
func endsOf(l []api.Slot) []int {
	var ends []int
	for _, s := range l {
		ends = append(ends, s.From, s.To)
	}
	return ends
}

// merge returns where a set of what is kept of two sets begins and ends, given where these do, in rising order. Of what is in neither set nothing is kept.
func merge[T cmp.Ordered](a, b []T, keep func(inA, inB bool) bool) []T {
	var out []T
	i, j := 0, 0
	for i < len(a) || j < len(b) {
		fromA := i < len(a) && (j == len(b) || a[i] <= b[j])
		fromB := j < len(b) && (i == len(a) || b[j] <= a[i])
		var at T
		if fromA {
			at = a[i]
			i++
		}
		if fromB {
			at = b[j]
			j++
		}
		// Behind an odd number of its ends one is in a set.
		if keep(i%2 == 1, j%2 == 1) != (len(out)%2 == 1) {
			out = append(out, at)
		}
	}
	return out
}
