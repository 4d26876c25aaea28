package flight_test

// What the tests share: spans, and the chapter's formulas in integers of any size, to hold the program against.

import (
	"math/big"
	"math/rand/v2"
	"testing"

	"ullage/api"
)

// none is the least int64, which is no number.
const none = -api.MostNum - 1

// ints returns the span between two integers.
func ints(lo, hi int) api.Span {
	return api.Span{Lo: api.Num(lo) * api.One, Hi: api.Num(hi) * api.One}
}

// raw returns the span between two numbers.
func raw(lo, hi api.Num) api.Span {
	return api.Span{Lo: lo, Hi: hi}
}

// at returns a number as a span.
func at(n api.Num) api.Span {
	return raw(n, n)
}

// box returns a box of three integers as points.
func box(x, y, z int) api.Box {
	return api.Box{ints(x, x), ints(y, y), ints(z, z)}
}

// random returns a source of numbers that are the same in each run.
func random() *rand.Rand {
	return rand.New(rand.NewPCG(3, 7))
}

// badSpans returns spans that are not valid.
func badSpans() []api.Span {
	return []api.Span{raw(none, none), raw(none, 0), raw(none, api.MostNum), raw(0, none), raw(1, 0), raw(api.One, api.One-1), raw(api.MostNum, -api.MostNum)}
}

// is fails unless a result and its error are what is wanted.
func is[T comparable](t *testing.T, what string, got T, e api.Errno, want T, f api.Errno) {
	t.Helper()
	if got != want || e != f {
		t.Errorf("%s: %v, error %d; want %v, error %d", what, got, e, want, f)
	}
}

// exact is a span: its ends in units of 2^-32.
type exact struct{ lo, hi *big.Int }

// exactBox is three of these.
type exactBox [3]exact

// exactly returns a span in integers of any size.
func exactly(a api.Span) exact {
	return exact{big.NewInt(int64(a.Lo)), big.NewInt(int64(a.Hi))}
}

func exactlyBox(b api.Box) exactBox {
	return exactBox{exactly(b[0]), exactly(b[1]), exactly(b[2])}
}

// span returns a span as the program has it.
func (a exact) span() api.Span {
	return raw(api.Num(a.lo.Int64()), api.Num(a.hi.Int64()))
}

func (b exactBox) box() api.Box {
	return api.Box{b[0].span(), b[1].span(), b[2].span()}
}

// whole returns the point of an integer.
func whole(n int) exact {
	return exactly(ints(n, n))
}

// isPoint0 reports whether a span is the point 0.
func (a exact) isPoint0() bool {
	return a.lo.Sign() == 0 && a.hi.Sign() == 0
}

// within reports whether b contains a.
func (a exact) within(b exact) bool {
	return b.lo.Cmp(a.lo) <= 0 && a.hi.Cmp(b.hi) <= 0
}

// attempt calls f, and returns the error that it throws.
func attempt(f func()) (e api.Errno) {
	defer func() {
		if x := recover(); x != nil {
			e = x.(api.Errno)
		}
	}()
	f()
	return api.OK
}

// fits throws ErrRange unless both ends are valid numbers.
func fits(lo, hi *big.Int) exact {
	most := big.NewInt(int64(api.MostNum))
	if lo.CmpAbs(most) > 0 || hi.CmpAbs(most) > 0 {
		panic(api.ErrRange)
	}
	return exact{lo, hi}
}

// parts rounds out a set of quotients of the same divisor, which is above 0: all from the least one to the greatest one.
func parts(d *big.Int, l ...*big.Int) exact {
	least, most := l[0], l[0]
	for _, x := range l[1:] {
		if x.Cmp(least) < 0 {
			least = x
		}
		if x.Cmp(most) > 0 {
			most = x
		}
	}
	// Div of package big rounds down, if the divisor is above 0.
	lo := new(big.Int).Div(least, d)
	hi := new(big.Int).Neg(most)
	hi.Neg(hi.Div(hi, d))
	return fits(lo, hi)
}

// one is 1 in units of 2^-32.
func one() *big.Int {
	return big.NewInt(int64(api.One))
}

func xAdd(a, b exact) exact {
	return fits(new(big.Int).Add(a.lo, b.lo), new(big.Int).Add(a.hi, b.hi))
}

func xSub(a, b exact) exact {
	return fits(new(big.Int).Sub(a.lo, b.hi), new(big.Int).Sub(a.hi, b.lo))
}

// corners returns the products of each two ends of two spans.
func corners(a, b exact) []*big.Int {
	var l []*big.Int
	for _, x := range []*big.Int{a.lo, a.hi} {
		for _, y := range []*big.Int{b.lo, b.hi} {
			l = append(l, new(big.Int).Mul(x, y))
		}
	}
	return l
}

func xMul(a, b exact) exact {
	return parts(one(), corners(a, b)...)
}

func xDiv(a, b exact) exact {
	if b.lo.Sign() <= 0 && b.hi.Sign() >= 0 {
		panic(api.ErrZero)
	}
	// x / y for y of two ends of one sign is x y' / (y y'), of the other end y'.
	both := new(big.Int).Mul(b.lo, b.hi)
	var l []*big.Int
	for _, p := range corners(a, exact{b.hi, b.lo}) {
		l = append(l, p.Mul(p, one()))
	}
	return parts(both, l...)
}

func xScale(a exact, n int64) exact {
	return parts(big.NewInt(1), new(big.Int).Mul(a.lo, big.NewInt(n)), new(big.Int).Mul(a.hi, big.NewInt(n)))
}

func xSquare(a exact) exact {
	l := []*big.Int{new(big.Int).Mul(a.lo, a.lo), new(big.Int).Mul(a.hi, a.hi)}
	if a.lo.Sign() <= 0 && a.hi.Sign() >= 0 {
		l = append(l, new(big.Int))
	}
	return parts(one(), l...)
}

// xNorm returns the root of the sum of the squares, added up in order.
func xNorm(b exactBox) exact {
	sum := whole(0)
	for _, a := range b {
		sum = xAdd(sum, xSquare(a))
	}
	lo := new(big.Int).Sqrt(new(big.Int).Mul(sum.lo, one()))
	square := new(big.Int).Mul(sum.hi, one())
	hi := new(big.Int).Sqrt(square)
	if new(big.Int).Mul(hi, hi).Cmp(square) != 0 {
		hi.Add(hi, big.NewInt(1))
	}
	return fits(lo, hi)
}

func xDot(a, b exactBox) exact {
	sum := whole(0)
	for i := range a {
		sum = xAdd(sum, xMul(a[i], b[i]))
	}
	return sum
}

// xLook returns the values of the lines of a table at the places in x: at its ends, and at the points in it.
func xLook(l []api.Point, x exact) exact {
	var out exact
	take := func(v exact) {
		if out.lo == nil || v.lo.Cmp(out.lo) < 0 {
			out.lo = v.lo
		}
		if out.hi == nil || v.hi.Cmp(out.hi) > 0 {
			out.hi = v.hi
		}
	}
	take(lineAt(l, x.lo))
	take(lineAt(l, x.hi))
	for _, p := range l {
		if place := at(p.At); exactly(place).within(x) {
			take(exactly(p.Value))
		}
	}
	return out
}

// lineAt returns the values of both lines at a place, rounded out.
func lineAt(l []api.Point, x *big.Int) exact {
	first, last := l[0], l[len(l)-1]
	if x.Cmp(big.NewInt(int64(first.At))) <= 0 {
		return exactly(first.Value)
	}
	if x.Cmp(big.NewInt(int64(last.At))) >= 0 {
		return exactly(last.Value)
	}
	k := 1
	for x.Cmp(big.NewInt(int64(l[k].At))) > 0 {
		k++
	}
	from, to := big.NewInt(int64(l[k-1].At)), big.NewInt(int64(l[k].At))
	before, behind := exactly(l[k-1].Value), exactly(l[k].Value)
	d := new(big.Int).Sub(to, from)
	along := func(a, b *big.Int) *big.Int {
		left := new(big.Int).Mul(a, new(big.Int).Sub(to, x))
		return left.Add(left, new(big.Int).Mul(b, new(big.Int).Sub(x, from)))
	}
	return exact{parts(d, along(before.lo, behind.lo)).lo, parts(d, along(before.hi, behind.hi)).hi}
}

// exactForce is the force at a box, step by step as the chapter has it.
func exactForce(p api.Planet, a api.Arc, place, v exactBox, mass exact) exactBox {
	f := exactlyBox(p.Pull)
	mu, radius, oblate, w, thrust := exactly(p.Mu), exactly(p.Radius), exactly(p.Oblate), exactly(p.Spin), exactly(a.Thrust)
	var r exact
	if !mu.isPoint0() || len(a.Drag) > 0 {
		r = xNorm(place)
	}
	if !mu.isPoint0() {
		u := exactBox{xDiv(place[0], r), xDiv(place[1], r), xDiv(place[2], r)}
		s := xDiv(xDiv(mu, r), r)
		n := exactBox{whole(1), whole(1), whole(1)}
		if !oblate.isPoint0() {
			c := xMul(oblate, xSquare(xDiv(radius, r)))
			q := xScale(xSquare(u[2]), 5)
			n[0] = xAdd(whole(1), xMul(c, xSub(whole(1), q)))
			n[1] = n[0]
			n[2] = xAdd(whole(1), xMul(c, xSub(whole(3), q)))
		}
		for i := range 3 {
			f[i] = xSub(f[i], xMul(xMul(s, u[i]), n[i]))
		}
	}
	if !w.isPoint0() {
		e := xSquare(w)
		f[0] = xAdd(xAdd(f[0], xScale(xMul(w, v[1]), 2)), xMul(e, place[0]))
		f[1] = xAdd(xSub(f[1], xScale(xMul(w, v[0]), 2)), xMul(e, place[1]))
	}
	if !thrust.isPoint0() {
		t := xDiv(thrust, mass)
		for i := range 3 {
			f[i] = xAdd(f[i], xMul(t, exactly(a.Dir[i])))
		}
	}
	if len(a.Drag) > 0 {
		b := xDiv(xLook(a.Drag, xSub(r, radius)), mass)
		speed := xNorm(v)
		for i := range 3 {
			f[i] = xSub(f[i], xMul(xMul(b, speed), v[i]))
		}
	}
	return f
}

// exactTries is how often a tube is looked for.
const exactTries = 8

// exactStep is a step, with the number of the try at which the tube is found, among so many.
func exactStep(p api.Planet, a api.Arc, s api.State, h api.Num, most int) (next api.State, tube api.Tube, tries int) {
	end := xAdd(exactly(at(s.T)), exactly(at(h))).span().Lo
	length, times := exactly(at(h)), exactly(raw(0, h))
	if h < 0 {
		times = exactly(raw(h, 0))
	}
	place, v, flow := exactlyBox(s.P), exactlyBox(s.V), exactly(a.Flow)
	mass := xSub(exactly(s.M), xMul(flow, times))
	if mass.lo.Sign() <= 0 {
		panic(api.ErrRange)
	}
	triedP, triedV := place, v
	for tries = 1; ; tries++ {
		if tries > most {
			panic(api.ErrState)
		}
		f := exactForce(p, a, triedP, triedV, mass)
		var toP, toV exactBox
		for i := range 3 {
			toP[i] = xAdd(place[i], xMul(times, triedV[i]))
			toV[i] = xAdd(v[i], xMul(times, f[i]))
		}
		foundP, foundV := grownTo(&triedP, toP), grownTo(&triedV, toV)
		if foundP && foundV {
			triedP, triedV = toP, toV
			break
		}
	}
	f := exactForce(p, a, triedP, triedV, mass)
	k := xDiv(xMul(length, length), whole(2))
	next = api.State{T: end, M: xSub(exactly(s.M), xMul(length, flow)).span()}
	for i := range 3 {
		next.P[i] = xAdd(xAdd(place[i], xMul(length, v[i])), xMul(k, f[i])).span()
		next.V[i] = xAdd(v[i], xMul(length, f[i])).span()
	}
	tube = api.Tube{From: min(s.T, end), To: max(s.T, end), P: triedP.box(), V: triedV.box(), M: mass.span()}
	return next, tube, tries
}

// grownTo reports whether a box contains another one, and grows each span of it that does not.
func grownTo(tried *exactBox, to exactBox) bool {
	contains := true
	for i, a := range to {
		old := tried[i]
		if a.within(old) {
			continue
		}
		contains = false
		lo, hi := old.lo, old.hi
		if a.lo.Cmp(lo) < 0 {
			lo = a.lo
		}
		if a.hi.Cmp(hi) > 0 {
			hi = a.hi
		}
		width := new(big.Int).Sub(hi, lo)
		fits(width, width)
		by := new(big.Int).Div(width, big.NewInt(8))
		by.Add(by, big.NewInt(65536))
		tried[i] = fits(new(big.Int).Sub(lo, by), new(big.Int).Add(hi, by))
	}
	return contains
}

// exactFly is a flight, forward.
func exactFly(p api.Planet, l []api.Arc, s api.State) (stops []api.State, tubes []api.Tube) {
	for _, a := range l {
		for left := a.Time; left > 0; left -= min(left, a.Step) {
			var tube api.Tube
			s, tube, _ = exactStep(p, a, s, min(left, a.Step), exactTries)
			tubes = append(tubes, tube)
		}
		s.M = xSub(exactly(s.M), exactly(a.Drop)).span()
		if s.M.Lo <= 0 {
			panic(api.ErrRange)
		}
		stops = append(stops, s)
	}
	return stops, tubes
}

// exactBack is a flight back.
func exactBack(p api.Planet, l []api.Arc, s api.State) (stops []api.State, tubes []api.Tube) {
	for i := len(l) - 1; i >= 0; i-- {
		a := l[i]
		s.M = xAdd(exactly(s.M), exactly(a.Drop)).span()
		for left := a.Time; left > 0; {
			h := left % a.Step
			if h == 0 {
				h = a.Step
			}
			left -= h
			var tube api.Tube
			s, tube, _ = exactStep(p, a, s, -h, exactTries)
			tubes = append(tubes, tube)
		}
		stops = append(stops, s)
	}
	return stops, tubes
}
