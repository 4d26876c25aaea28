package vehicle

import (
	"math/bits"
	"strconv"

	"ullage/api"
)

// CheckQuantity reports whether a quantity is valid.
func CheckQuantity(q api.Quantity) bool {
	if q.Den < 1 || !isPart(q.Den) || !isPart(q.Num) || divisor(q.Num, q.Den) != 1 {
		return false
	}
	for _, exponent := range dimensionOf(q) {
		if exponent < -api.MaxExponent || exponent > api.MaxExponent {
			return false
		}
	}
	return true
}

// Plus returns the sum of two quantities.
func Plus(a, b api.Quantity) (api.Quantity, api.Errno) {
	if !CheckQuantity(a) || !CheckQuantity(b) {
		return api.Quantity{}, api.ErrArg
	}
	if dimensionOf(a) != dimensionOf(b) {
		return api.Quantity{}, api.ErrUnit
	}
	common := divisor(a.Den, b.Den)
	left, fitsLeft := product(a.Num, b.Den/common)
	right, fitsRight := product(b.Num, a.Den/common)
	den, fitsDen := product(a.Den/common, b.Den)
	// The greatest sum, 2^63, comes out as the least int64, which is no part either.
	num := left + right
	if !fitsLeft || !fitsRight || !fitsDen || !isPart(num) {
		return api.Quantity{}, api.ErrRange
	}
	sum := a
	sum.Num, sum.Den = lowest(num, den)
	return sum, api.OK
}

// Minus returns the difference of two quantities.
func Minus(a, b api.Quantity) (api.Quantity, api.Errno) {
	if !CheckQuantity(b) {
		return api.Quantity{}, api.ErrArg
	}
	return Plus(a, negated(b))
}

// Times returns the product of two quantities.
func Times(a, b api.Quantity) (api.Quantity, api.Errno) {
	if !CheckQuantity(a) || !CheckQuantity(b) {
		return api.Quantity{}, api.ErrArg
	}
	// What is left when each Num is reduced with the other Den is in lowest terms.
	aNum, bDen := lowest(a.Num, b.Den)
	bNum, aDen := lowest(b.Num, a.Den)
	num, fitsNum := product(aNum, bNum)
	den, fitsDen := product(aDen, bDen)
	all := api.Quantity{Num: num, Den: den, Km: a.Km + b.Km, S: a.S + b.S, T: a.T + b.T}
	if !fitsNum || !fitsDen || !CheckQuantity(all) {
		return api.Quantity{}, api.ErrRange
	}
	return all, api.OK
}

// Over returns the quotient of two quantities.
func Over(a, b api.Quantity) (api.Quantity, api.Errno) {
	if !CheckQuantity(b) || b.Num == 0 {
		return api.Quantity{}, api.ErrArg
	}
	upsideDown := api.Quantity{Num: b.Den, Den: b.Num, Km: -b.Km, S: -b.S, T: -b.T}
	if b.Num < 0 {
		upsideDown.Num, upsideDown.Den = -b.Den, -b.Num
	}
	return Times(a, upsideDown)
}

// Lower returns the greatest number that is not above a quantity.
func Lower(q api.Quantity) (api.Num, api.Errno) {
	if !CheckQuantity(q) {
		return 0, api.ErrArg
	}
	high, low := bits.Mul64(size(q.Num), uint64(api.One))
	den := uint64(q.Den)
	if high >= den {
		return 0, api.ErrRange
	}
	whole, rest := bits.Div64(high, low, den)
	if whole > uint64(api.MostNum) {
		return 0, api.ErrRange
	}
	n := api.Num(whole)
	switch {
	case q.Num >= 0:
		return n, api.OK
	case rest == 0:
		return -n, api.OK
	}
	// As no Num is above 2^62, no size below 2^31 is closer to it than 2^-31: there is room for one more.
	return -n - 1, api.OK
}

// Upper returns the least number that is not below a quantity.
func Upper(q api.Quantity) (api.Num, api.Errno) {
	if !CheckQuantity(q) {
		return 0, api.ErrArg
	}
	n, e := Lower(negated(q))
	return -n, e
}

// Show writes a quantity.
func Show(q api.Quantity) string {
	if !CheckQuantity(q) {
		return ""
	}
	text := strconv.Itoa(q.Num)
	if q.Den != 1 {
		text += "/" + strconv.Itoa(q.Den)
	}
	bases := [...]string{"km", "s", "t"}
	for i, exponent := range dimensionOf(q) {
		if exponent != 0 {
			text += " " + bases[i]
		}
		if exponent != 0 && exponent != 1 {
			text += "^" + strconv.Itoa(exponent)
		}
	}
	return text
}

// isPart reports whether n may be the Num of a quantity.
func isPart(n int) bool {
	return -api.MaxRatio <= n && n <= api.MaxRatio
}

// size returns the absolute value of n.
func size(n int) uint64 {
	if n < 0 {
		return -uint64(n)
	}
	return uint64(n)
}

// divisor returns the greatest common divisor of two parts, which are not both 0.
func divisor(a, b int) int {
	for b != 0 {
		a, b = b, a%b
	}
	return max(a, -a)
}

// lowest returns num / den in lowest terms, where den is above 0.
func lowest(num, den int) (int, int) {
	common := divisor(num, den)
	return num / common, den / common
}

// product returns a b, and whether it is a part; if not, it returns 0.
func product(a, b int) (int, bool) {
	high, low := bits.Mul64(size(a), size(b))
	if high != 0 || low > api.MaxRatio {
		return 0, false
	}
	return a * b, true
}

// negated returns -q, of a valid quantity.
func negated(q api.Quantity) api.Quantity {
	q.Num = -q.Num
	return q
}
