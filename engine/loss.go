package engine

import "ullage/api"

// Loss returns the least and the greatest loss of a tank.
func Loss(before, after, in, out, off, meter int) (low, high int, e api.Errno) {
	for _, n := range [...]int{before, after, in, out, off, meter} {
		if !isWithin(n, 0, api.MaxMass) {
			return 0, 0, api.ErrRange
		}
	}
	loss, doubt := before+in-out-after, 2*off+meter
	return loss - doubt, loss + doubt, api.OK
}
