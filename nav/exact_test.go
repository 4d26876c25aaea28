package nav_test

// What the tests share: spans, and the chapter's formulas in integers of any size, to hold the program against.

import (
	"math/big"
	"math/bits"
	"math/rand/v2"
	"slices"
	"testing"

	"ullage/api"
	"ullage/flight"
)

// none is the least int64, which is no number.
const none = -api.MostNum - 1

// ints returns the span between two integers.
func ints(lo, hi int) api.Span {
	return api.Span{Lo: api.Num(lo) * api.One, Hi: api.Num(hi) * api.One}
}

// raw returns the span between two numbers.
func raw(lo, hi api.Num) api.Span {
	return api.Span{Lo: lo, Hi: hi}
}

// at returns a number as a span.
func at(n api.Num) api.Span {
	return raw(n, n)
}

// box returns a box of three integers as points.
func box(x, y, z int) api.Box {
	return api.Box{ints(x, x), ints(y, y), ints(z, z)}
}

// random returns a source of numbers that are the same in each run.
func random() *rand.Rand {
	return rand.New(rand.NewPCG(6, 6))
}

// badSpans returns spans that are not valid.
func badSpans() []api.Span {
	return []api.Span{raw(none, none), raw(none, 0), raw(none, api.MostNum), raw(0, none), raw(1, 0), raw(api.One, api.One-1), raw(api.MostNum, -api.MostNum)}
}

// is fails unless a result and its error are what is wanted.
func is[T comparable](t *testing.T, what string, got T, e api.Errno, want T, f api.Errno) {
	t.Helper()
	if got != want || e != f {
		t.Errorf("%s: %v, error %d; want %v, error %d", what, got, e, want, f)
	}
}

// are fails unless a list and its error are what is wanted.
func are[T comparable](t *testing.T, what string, got []T, e api.Errno, want []T, f api.Errno) {
	t.Helper()
	if !slices.Equal(got, want) || e != f {
		t.Errorf("%s: %v, error %d; want %v, error %d", what, got, e, want, f)
	}
}

// exact is a span: its ends in units of 2^-32.
type exact struct{ lo, hi *big.Int }

// exactBox is three of these.
type exactBox [3]exact

// exactly returns a span in integers of any size.
func exactly(a api.Span) exact {
	return exact{big.NewInt(int64(a.Lo)), big.NewInt(int64(a.Hi))}
}

func exactlyBox(b api.Box) exactBox {
	return exactBox{exactly(b[0]), exactly(b[1]), exactly(b[2])}
}

// span returns a span as the program has it.
func (a exact) span() api.Span {
	return raw(api.Num(a.lo.Int64()), api.Num(a.hi.Int64()))
}

func (b exactBox) box() api.Box {
	return api.Box{b[0].span(), b[1].span(), b[2].span()}
}

// has0 reports whether a span contains 0.
func (a exact) has0() bool {
	return a.lo.Sign() <= 0 && a.hi.Sign() >= 0
}

// attempt calls f, and returns the error that it throws.
func attempt(f func()) (e api.Errno) {
	defer func() {
		if x := recover(); x != nil {
			e = x.(api.Errno)
		}
	}()
	f()
	return api.OK
}

// fits throws ErrRange unless both ends are valid numbers.
func fits(lo, hi *big.Int) exact {
	most := big.NewInt(int64(api.MostNum))
	if lo.CmpAbs(most) > 0 || hi.CmpAbs(most) > 0 {
		panic(api.ErrRange)
	}
	return exact{lo, hi}
}

// ends returns the least and the greatest one of numbers.
func ends(l ...*big.Int) (least, most *big.Int) {
	return slices.MinFunc(l, (*big.Int).Cmp), slices.MaxFunc(l, (*big.Int).Cmp)
}

// parts rounds out a set of quotients of the same divisor, which is above 0: all from the least one to the greatest one.
func parts(d *big.Int, l ...*big.Int) exact {
	least, most := ends(l...)
	return fits(floor(least, d), ceiling(most, d))
}

// floor returns n / d, rounded down, of a divisor above 0.
func floor(n, d *big.Int) *big.Int {
	return new(big.Int).Div(n, d) // Div of package big rounds down, if the divisor is above 0
}

// ceiling returns n / d, rounded up, of a divisor above 0.
func ceiling(n, d *big.Int) *big.Int {
	up := floor(new(big.Int).Neg(n), d)
	return up.Neg(up)
}

// one is 1 in units of 2^-32.
func one() *big.Int {
	return big.NewInt(int64(api.One))
}

func xAdd(a, b exact) exact {
	return fits(new(big.Int).Add(a.lo, b.lo), new(big.Int).Add(a.hi, b.hi))
}

func xSub(a, b exact) exact {
	return fits(new(big.Int).Sub(a.lo, b.hi), new(big.Int).Sub(a.hi, b.lo))
}

// corners returns the products of each two ends of two spans.
func corners(a, b exact) []*big.Int {
	var l []*big.Int
	for _, x := range []*big.Int{a.lo, a.hi} {
		for _, y := range []*big.Int{b.lo, b.hi} {
			l = append(l, new(big.Int).Mul(x, y))
		}
	}
	return l
}

func xMul(a, b exact) exact {
	return parts(one(), corners(a, b)...)
}

func xDiv(a, b exact) exact {
	if b.has0() {
		panic(api.ErrZero)
	}
	// x / y for y of two ends of one sign is x y' / (y y'), of the other end y'.
	var l []*big.Int
	for _, p := range corners(a, exact{b.hi, b.lo}) {
		l = append(l, p.Mul(p, one()))
	}
	return parts(new(big.Int).Mul(b.lo, b.hi), l...)
}

func xSquare(a exact) exact {
	l := []*big.Int{new(big.Int).Mul(a.lo, a.lo), new(big.Int).Mul(a.hi, a.hi)}
	if a.has0() {
		l = append(l, new(big.Int))
	}
	return parts(one(), l...)
}

// xRoot returns the roots of what is not negative, and throws ErrNone if there is nothing.
func xRoot(a exact) exact {
	if a.hi.Sign() < 0 {
		panic(api.ErrNone)
	}
	lo := new(big.Int)
	if a.lo.Sign() > 0 {
		lo.Sqrt(new(big.Int).Mul(a.lo, one()))
	}
	return fits(lo, rootUp(new(big.Int).Mul(a.hi, one())))
}

// rootUp returns the square root of n, rounded up.
func rootUp(n *big.Int) *big.Int {
	root := new(big.Int).Sqrt(n)
	if new(big.Int).Mul(root, root).Cmp(n) != 0 {
		root.Add(root, big.NewInt(1))
	}
	return root
}

// common returns what two spans have in common, if there is something.
func common(a, b exact) (exact, bool) {
	_, lo := ends(a.lo, b.lo)
	hi, _ := ends(a.hi, b.hi)
	return exact{lo, hi}, lo.Cmp(hi) <= 0
}

func xMeet(a, b exact) exact {
	both, there := common(a, b)
	if !there {
		panic(api.ErrNone)
	}
	return both
}

func xHull(a, b exact) exact {
	lo, _ := ends(a.lo, b.lo)
	_, hi := ends(a.hi, b.hi)
	return exact{lo, hi}
}

// xDot adds the products up in order.
func xDot(a, b exactBox) exact {
	sum := exactly(at(0))
	for i := range a {
		sum = xAdd(sum, xMul(a[i], b[i]))
	}
	return sum
}

// xNorm returns the root of the sum of the squares, added up in order.
func xNorm(b exactBox) exact {
	sum := exactly(at(0))
	for _, a := range b {
		sum = xAdd(sum, xSquare(a))
	}
	return xRoot(sum)
}

// xOffset returns how far a place is from the one of a measurement.
func xOffset(s api.State, m api.Radio) exactBox {
	var d exactBox
	for i := range d {
		d[i] = xSub(exactly(s.P[i]), exactly(m.From[i]))
	}
	return d
}

// xReading is the reading of a measurement.
func xReading(s api.State, m api.Radio) exact {
	switch m.Kind {
	case 0:
		return xNorm(xOffset(s, m))
	case 1:
		d := xOffset(s, m)
		along := xDot(d, exactlyBox(s.V))
		return xDiv(along, xNorm(d))
	case 2:
		return xDot(exactlyBox(m.Dir), exactlyBox(s.P))
	}
	return xDot(exactlyBox(m.Dir), exactlyBox(s.V))
}

// xCutSum cuts three spans by a sum: x first, then y, then z.
func xCutSum(a, x exactBox, r exact) exactBox {
	quotientOf := func(i, j, k int) {
		n := xSub(r, xAdd(xMul(a[j], x[j]), xMul(a[k], x[k])))
		var quotient exact
		if attempt(func() { quotient = xDiv(n, a[i]) }) == api.OK {
			x[i] = xMeet(x[i], quotient)
		}
	}
	quotientOf(0, 1, 2)
	quotientOf(1, 0, 2)
	quotientOf(2, 0, 1)
	xMeet(xDot(a, x), r)
	return x
}

// xCutDistance cuts a place by a distance: x first, then y, then z.
func xCutDistance(s api.State, m api.Radio) exactBox {
	r := xMeet(exactly(m.Value), exactly(raw(0, api.MostNum)))
	place, from, d := exactlyBox(s.P), exactlyBox(m.From), xOffset(s, m)
	square := xSquare(r)
	q := exactBox{xSquare(d[0]), xSquare(d[1]), xSquare(d[2])}
	sideOf := func(i, j, k int) {
		g := xRoot(xSub(square, xAdd(q[j], q[k])))
		minus := exact{new(big.Int).Neg(g.hi), new(big.Int).Neg(g.lo)}
		right, onRight := common(d[i], g)
		left, onLeft := common(d[i], minus)
		switch {
		case onRight && onLeft:
			d[i] = xHull(right, left)
		case onRight:
			d[i] = right
		case onLeft:
			d[i] = left
		default:
			panic(api.ErrNone)
		}
		place[i] = xMeet(place[i], xAdd(d[i], from[i]))
		q[i] = xSquare(d[i])
	}
	sideOf(0, 1, 2)
	sideOf(1, 0, 2)
	sideOf(2, 0, 1)
	return place
}

// xCut cuts a state by a measurement.
func xCut(s api.State, m api.Radio) (cut api.State, e api.Errno) {
	e = attempt(func() {
		cut = s
		switch m.Kind {
		case 0:
			cut.P = xCutDistance(s, m).box()
		case 1:
			d := xOffset(s, m)
			cut.V = xCutSum(d, exactlyBox(s.V), xMul(exactly(m.Value), xNorm(d))).box()
		case 2:
			cut.P = xCutSum(exactlyBox(m.Dir), exactlyBox(s.P), exactly(m.Value)).box()
		case 3:
			cut.V = xCutSum(exactlyBox(m.Dir), exactlyBox(s.V), exactly(m.Value)).box()
		}
	})
	if e != api.OK {
		return api.State{}, e
	}
	return cut, e
}

// xFuse cuts a state in rounds, and says how many there were. It goes on until there have been as many as it was given, and remembers the state behind each.
func xFuse(s api.State, l []api.Radio, rounds int) (api.State, int, api.Errno) {
	behind := []api.State{s}
	for range rounds {
		for _, m := range l {
			next, e := xCut(s, m)
			if e == api.ErrNone {
				return api.State{}, 0, e
			}
			if e == api.OK {
				s = next
			}
		}
		behind = append(behind, s)
	}
	for n := 1; n < len(behind); n++ {
		if behind[n] == behind[n-1] {
			return s, n, api.OK
		}
	}
	return s, rounds, api.OK
}

// xWithout returns all lists without so many of their elements.
func xWithout(l []api.Radio, wrong int) [][]api.Radio {
	var all [][]api.Radio
	for kept := range uint(1) << len(l) {
		if bits.OnesCount(kept) != len(l)-wrong {
			continue
		}
		some := []api.Radio{}
		for i, m := range l {
			if kept>>i&1 == 1 {
				some = append(some, m)
			}
		}
		all = append(all, some)
	}
	return all
}

// xTrust is the least state that has all that is left without so many measurements.
func xTrust(s api.State, l []api.Radio, wrong, rounds int) (api.State, api.Errno) {
	var places, speeds [3][]*big.Int
	for _, some := range xWithout(l, wrong) {
		one, _, e := xFuse(s, some, rounds)
		if e != api.OK {
			continue
		}
		for i := range 3 {
			p, v := exactly(one.P[i]), exactly(one.V[i])
			places[i] = append(places[i], p.lo, p.hi)
			speeds[i] = append(speeds[i], v.lo, v.hi)
		}
	}
	if len(places[0]) == 0 {
		return api.State{}, api.ErrNone
	}
	for i := range 3 {
		lo, hi := ends(places[i]...)
		s.P[i] = exact{lo, hi}.span()
		lo, hi = ends(speeds[i]...)
		s.V[i] = exact{lo, hi}.span()
	}
	return s, api.OK
}

// xSuspects returns the measurements without which nothing is wrong.
func xSuspects(s api.State, l []api.Radio, rounds int) []int {
	if _, _, e := xFuse(s, l, rounds); e != api.ErrNone {
		return nil
	}
	var who []int
	for i := range l {
		if _, _, e := xFuse(s, slices.Delete(slices.Clone(l), i, i+1), rounds); e != api.ErrNone {
			who = append(who, i)
		}
	}
	return who
}

// xPredict moves a state over a planet that pulls more.
func xPredict(p api.Planet, s api.State, acc api.Box, h api.Num) (next api.State, e api.Errno) {
	e = attempt(func() {
		pull, more := exactlyBox(p.Pull), exactlyBox(acc)
		p.Pull = exactBox{xAdd(pull[0], more[0]), xAdd(pull[1], more[1]), xAdd(pull[2], more[2])}.box()
	})
	if e != api.OK {
		return api.State{}, e
	}
	next, _, e = flight.Step(p, api.Arc{Time: 3, Step: 7, Dir: box(1, 1, 1)}, s, h)
	return next, e
}

// xFollow goes on from update to update.
func xFollow(p api.Planet, s api.State, l []api.Update, rounds int) (states []api.State, n int, e api.Errno) {
	for n = range l {
		if s, e = xPredict(p, s, l[n].Acc, l[n].H); e != api.OK {
			return states, n, e
		}
		if s, _, e = xFuse(s, l[n].Heard, rounds); e != api.OK {
			return states, n, e
		}
		states = append(states, s)
	}
	return states, len(l), api.OK
}
