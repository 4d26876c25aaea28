package span

import (
	"math/bits"

	"ullage/api"
)

// size returns the absolute value of n. It takes the least int64, too, whose absolute value is no int64.
func size(n api.Num) uint64 {
	if n < 0 {
		return -uint64(n)
	}
	return uint64(n)
}

// round returns x y / d, rounded down and rounded up, for any three integers of 64 bits with d other than 0. It fits if both results are valid numbers.
func round(x, y, d api.Num) (down, up api.Num, fits bool) {
	high, low := bits.Mul64(size(x), size(y))
	by := size(d)
	if high >= by {
		return 0, 0, false
	}
	whole, rest := bits.Div64(high, low, by)
	if whole > uint64(api.MostNum) || whole == uint64(api.MostNum) && rest != 0 {
		return 0, 0, false
	}
	down, up = api.Num(whole), api.Num(whole)
	if rest != 0 {
		up++
	}
	if (x < 0) != (y < 0) != (d < 0) {
		down, up = -up, -down
	}
	return down, up, true
}

// quotient returns x y / d, rounded out.
func quotient(x, y, d api.Num) (api.Span, api.Errno) {
	down, up, fits := round(x, y, d)
	if !fits {
		return api.Span{}, api.ErrRange
	}
	return api.Span{Lo: down, Hi: up}, api.OK
}

// greatest returns the greatest n from 0 to most for which holds is true. It is true of 0, and false of all behind one of which it is false.
func greatest(most uint64, holds func(n uint64) bool) uint64 {
	low, high := uint64(0), most
	for low < high {
		mid := high - (high-low)/2
		if holds(mid) {
			low = mid
		} else {
			high = mid - 1
		}
	}
	return low
}

// wide is an unsigned integer of 128 bits.
type wide struct{ high, low uint64 }

// product returns x y.
func product(x, y uint64) wide {
	high, low := bits.Mul64(x, y)
	return wide{high, low}
}

// plus returns a + b, without what is carried out of 128 bits.
func (a wide) plus(b wide) wide {
	low, carry := bits.Add64(a.low, b.low, 0)
	high, _ := bits.Add64(a.high, b.high, carry)
	return wide{high, low}
}

// minus returns a - b, where b is not above a.
func (a wide) minus(b wide) wide {
	low, borrow := bits.Sub64(a.low, b.low, 0)
	high, _ := bits.Sub64(a.high, b.high, borrow)
	return wide{high, low}
}

// times returns a n, without what is carried out of 128 bits.
func (a wide) times(n uint64) wide {
	high, low := bits.Mul64(a.low, n)
	return wide{high + a.high*n, low}
}

// above reports whether a is greater than b.
func (a wide) above(b wide) bool {
	return a.high > b.high || a.high == b.high && a.low > b.low
}
