package vehicle

import (
	"strconv"
	"strings"

	"ullage/api"
)

// Read reads a quantity.
func Read(s string) (q api.Quantity, at int, e api.Errno) {
	if len(s) > api.MaxText {
		return api.Quantity{}, 0, api.ErrLong
	}
	r := reader{scanner: scanner{text: s}}
	at, e = upToFault(func() {
		r.advance()
		all := r.quantity()
		if r.now.kind != kindEnd {
			r.refuse(api.ErrForm)
		}
		q = all
	})
	return q, at, e
}

// reader reads the quantities of a text.
type reader struct {
	scanner
	lets map[string]api.Quantity
}

// quantity reads as many terms as there are.
func (r *reader) quantity() api.Quantity {
	return r.chain(r.term, "+", "-")
}

// term reads as many factors as there are.
func (r *reader) term() api.Quantity {
	return r.chain(r.factor, "*", "/")
}

// chain reads parts between which some operators stand, and applies these from left to right.
func (r *reader) chain(part func() api.Quantity, operators ...string) api.Quantity {
	all := part()
	for r.sees(operators...) {
		operator := r.now
		r.advance()
		next := part()
		all = apply(operator, all, next)
	}
	return all
}

// factor reads what operators stand between.
func (r *reader) factor() api.Quantity {
	first := r.now
	switch {
	case r.sees("-"):
		r.advance()
		return negated(r.factor())
	case r.sees("("):
		r.advance()
		q := r.quantity()
		r.pass(")")
		return q
	case first.kind == kindNumber:
		return r.number()
	case first.kind == kindUnit:
		r.advance()
		unit, _ := unitNamed(first.text)
		return unit
	case first.kind == kindName:
		q, there := r.lets[first.text]
		if !there {
			r.refuse(api.ErrNone)
		}
		r.advance()
		return q
	}
	r.refuse(api.ErrForm)
	return api.Quantity{}
}

// number reads a number, and the unit behind it, if there is one.
func (r *reader) number() api.Quantity {
	number := decimal(r.now.text)
	r.advance()
	unit, isUnit := unitNamed(r.now.text)
	if !isUnit {
		return number
	}
	operator := r.now
	r.advance()
	return apply(operator, number, unit)
}

// apply returns what an operator makes of two quantities; a unit is one that multiplies.
func apply(operator token, a, b api.Quantity) api.Quantity {
	operation := Times
	switch operator.text {
	case "+":
		operation = Plus
	case "-":
		operation = Minus
	case "/":
		operation = Over
	}
	q, e := operation(a, b)
	must(operator.at, e)
	return q
}

// decimal returns the number of a token.
func decimal(text string) api.Quantity {
	whole, behind, _ := strings.Cut(text, ".")
	// As a number has few digits, there is no error.
	num, _ := strconv.Atoi(whole + behind)
	den := 1
	for range len(behind) {
		den *= 10
	}
	num, den = lowest(num, den)
	return api.Quantity{Num: num, Den: den}
}
