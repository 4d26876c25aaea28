package span

import (
	"strconv"
	"strings"

	"ullage/api"
)

// pointBits is how many bits a number has behind the point.
const pointBits = 32

// Text returns a number in decimal notation, exactly; the empty string for what is no number.
func Text(n api.Num) string {
	if !valid(n) {
		return ""
	}
	var text []byte
	if n < 0 {
		text = append(text, '-')
	}
	one := uint64(api.One)
	text = strconv.AppendUint(text, size(n)/one, 10)
	rest := size(n) % one
	if rest != 0 {
		text = append(text, '.')
	}
	for rest != 0 {
		rest *= 10
		text = append(text, '0'+byte(rest/one))
		rest %= one
	}
	return string(text)
}

// Read returns a decimal number, rounded out.
func Read(s string) (api.Span, api.Errno) {
	if len(s) > api.MaxWord {
		return api.Span{}, api.ErrLong
	}
	if !hasForm(s) {
		return api.Span{}, api.ErrForm
	}
	digits, negative := strings.CutPrefix(s, "-")
	whole, fits := readWhole(digits)
	if !fits {
		return api.Span{}, api.ErrRange
	}
	_, behind, _ := strings.Cut(digits, ".")
	part, more := readPart(behind)
	down := api.Num(whole)*api.One + part
	if more && down == api.MostNum {
		return api.Span{}, api.ErrRange
	}
	a := api.Span{Lo: down, Hi: down}
	if more {
		a.Hi++
	}
	if negative {
		a = negated(a)
	}
	return a, api.OK
}

// hasForm reports whether s is a decimal number as Read takes it.
func hasForm(s string) bool {
	number, negative := strings.CutPrefix(s, "-")
	whole, behind, hasPoint := strings.Cut(number, ".")
	if !isDigits(whole) || whole[0] == '0' && len(whole) > 1 {
		return false
	}
	if hasPoint && !isDigits(behind) {
		return false
	}
	return !negative || strings.ContainsAny(number, "123456789")
}

// isDigits reports whether s is one digit or more.
func isDigits(s string) bool {
	for i := range len(s) {
		if s[i] < '0' || s[i] > '9' {
			return false
		}
	}
	return s != ""
}

// readWhole returns the integer before the point, and whether it is at most MaxWhole.
func readWhole(digits string) (whole int, fits bool) {
reading:
	for i := range len(digits) {
		switch {
		case digits[i] == '.':
			break reading
		case whole > api.MaxWhole:
			// The digits that are left would only make it greater, in the end too great for an int.
			break reading
		}
		whole = 10*whole + int(digits[i]-'0')
	}
	return whole, whole <= api.MaxWhole
}

// readPart returns what the digits behind the point make, rounded down, and whether there is more of it.
func readPart(digits string) (part api.Num, more bool) {
	rest := []byte(digits)
	var bits [pointBits]api.Num
	for i := range bits {
		bits[i] = double(rest)
	}
	for _, bit := range bits {
		part = 2*part + bit
	}
	return part, strings.ContainsAny(string(rest), "123456789")
}

// double doubles the number whose digits stand behind a point, and returns what comes to stand before it.
func double(digits []byte) api.Num {
	carry := byte(0)
	for i := len(digits) - 1; i >= 0; i-- {
		twice := 2*(digits[i]-'0') + carry
		digits[i] = '0' + twice%10
		carry = twice / 10
	}
	return api.Num(carry)
}
