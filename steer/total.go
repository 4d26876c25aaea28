package steer

import (
	"math/bits"

	"ullage/api"
)

// total is an exact sum of products of numbers, in 128 bits, as a two's complement: at most 2^97 is added at a time, so a few products leave it far from its limits.
type total struct{ high, low uint64 }

// add adds the product of two numbers.
func (t *total) add(a, b api.Num) {
	high, low := bits.Mul64(uint64(a), uint64(b))
	// As integers without a sign, negative ones are greater by 2^64, which adds the other factor to the high part.
	if a < 0 {
		high -= uint64(b)
	}
	if b < 0 {
		high -= uint64(a)
	}
	var carry uint64
	t.low, carry = bits.Add64(t.low, low, 0)
	t.high += high + carry
}

// number returns the sum, rounded down to a number, or ErrRange if that is not valid.
func (t *total) number() (api.Num, api.Errno) {
	if high := int64(t.high); high != int64(int32(high)) {
		return 0, api.ErrRange
	}
	n := api.Num(t.high<<32 | t.low>>32)
	if !isNumber(n) {
		return 0, api.ErrRange
	}
	return n, api.OK
}
