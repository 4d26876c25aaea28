package span_test

// P1.11 (what follows), the rules that hold for all functions, and the chapter's examples.

import (
	"math/big"
	"slices"
	"testing"

	"ullage/api"
	"ullage/span"
)

// unaries returns the operations of one span that widen with it.
func unaries() map[string]unary {
	return map[string]unary{
		"Neg": span.Neg, "Square": span.Square, "Root": span.Root, "Abs": span.Abs,
		"Scale by 3":   func(a api.Span) (api.Span, api.Errno) { return span.Scale(a, 3) },
		"Scale by -7":  func(a api.Span) (api.Span, api.Errno) { return span.Scale(a, -7) },
		"Grow by 1":    func(a api.Span) (api.Span, api.Errno) { return span.Grow(a, api.One) },
		"Turn, first":  func(a api.Span) (api.Span, api.Errno) { c, _, e := span.Turn(a); return c, e },
		"Turn, second": func(a api.Span) (api.Span, api.Errno) { _, s, e := span.Turn(a); return s, e },
		"Sum":          func(a api.Span) (api.Span, api.Errno) { return span.Sum([]api.Span{a, ints(1, 2), a}) },
		"Norm":         func(a api.Span) (api.Span, api.Errno) { return span.Norm([]api.Span{a, ints(1, 2)}) },
		"Look":         func(a api.Span) (api.Span, api.Errno) { return span.Look(steps(9), a) },
	}
}

// binaries returns the operations of two spans that widen with them.
func binaries() map[string]binary {
	return map[string]binary{
		"Add": span.Add, "Sub": span.Sub, "Mul": span.Mul, "Div": span.Div, "Most": span.Most, "Least": span.Least, "Hull": span.Hull, "Meet": span.Meet,
		"Dot": func(a, b api.Span) (api.Span, api.Errno) {
			return span.Dot([]api.Span{a, ints(1, 2)}, []api.Span{b, a})
		},
	}
}

// TestContains checks that what is true of numbers in spans is in the results.
func TestContains(t *testing.T) {
	r := random()
	holds := func(name string, z api.Span, e api.Errno, exactly *big.Rat) {
		t.Helper()
		if e == api.OK && !has(z, exactly) {
			t.Errorf("%s, %v, does not contain %s", name, z, exactly)
		}
	}
	for range 20000 {
		a, b := randomSpan(r), randomSpan(r)
		i, j := randomPart(r, a).Lo, randomPart(r, b).Lo
		x, y := exact(i), exact(j)
		z, e := span.Add(a, b)
		holds("Add", z, e, new(big.Rat).Add(x, y))
		z, e = span.Sub(a, b)
		holds("Sub", z, e, new(big.Rat).Sub(x, y))
		z, e = span.Mul(a, b)
		holds("Mul", z, e, new(big.Rat).Mul(x, y))
		z, e = span.Square(a)
		holds("Square", z, e, new(big.Rat).Mul(x, x))
		if j != 0 {
			z, e = span.Div(a, b)
			holds("Div", z, e, new(big.Rat).Quo(x, y))
		}
		z, e = span.Root(a)
		if e == api.OK && i >= 0 && (new(big.Rat).Mul(exact(z.Lo), exact(z.Lo)).Cmp(x) > 0 || new(big.Rat).Mul(exact(z.Hi), exact(z.Hi)).Cmp(x) < 0) {
			t.Errorf("Root(%v), %v, does not contain the root of %s", a, z, x)
		}
	}
}

// TestWidens checks that results for spans within others are within the results for those.
func TestWidens(t *testing.T) {
	r := random()
	for name, f := range unaries() {
		for range 3000 {
			outer := randomSpan(r)
			inner := randomPart(r, outer)
			z, e := f(outer)
			y, i := f(inner)
			// A span within one that has numbers that are not negative may have none.
			if name == "Root" && inner.Hi < 0 || e != api.OK {
				continue
			}
			if i != api.OK || !span.Within(y, z) {
				t.Errorf("%s: %v of %v is not within %v of %v", name, y, inner, z, outer)
			}
		}
	}
	for name, f := range binaries() {
		for range 3000 {
			a, b := randomSpan(r), randomSpan(r)
			x, y := randomPart(r, a), randomPart(r, b)
			z, e := f(a, b)
			inner, i := f(x, y)
			if e != api.OK || i == api.ErrNone {
				continue
			}
			if i != api.OK || !span.Within(inner, z) {
				t.Errorf("%s: %v of %v and %v is not within %v of %v and %v", name, inner, x, y, z, a, b)
			}
		}
	}
}

// TestLookAtPlaces looks up each place of a table, and finds its value.
func TestLookAtPlaces(t *testing.T) {
	r := random()
	tables := goodTables()
	for range 300 {
		tables = append(tables, randomTable(r))
	}
	for _, l := range tables {
		for _, p := range l {
			a, e := span.Look(l, raw(p.At, p.At))
			is(t, "Look at a place of the table", a, e, p.Value, api.OK)
		}
	}
}

// TestTurnIsOnTheCircle checks that the squares of Turn's values, of a point, have the sum 1.
func TestTurnIsOnTheCircle(t *testing.T) {
	r := random()
	for range 5000 {
		n := randomPart(r, ints(-1, 1)).Lo
		c, s, e := span.Turn(raw(n, n))
		if e != api.OK {
			t.Fatalf("Turn(%d): error %d", n, e)
		}
		x, _ := span.Square(c)
		y, _ := span.Square(s)
		if sum, e := span.Add(x, y); e != api.OK || !span.In(sum, api.One) {
			t.Errorf("Turn(%d): the squares have the sum %v, error %d", n, sum, e)
		}
	}
}

// TestArgumentsAreOnlyRead checks that lists and tables are as they were behind calls, also behind their ends (R4).
func TestArgumentsAreOnlyRead(t *testing.T) {
	a, b, table := times(4, ints(1, 2)), times(4, ints(3, 4)), steps(4)
	for range 2 {
		span.Sum(a[:2])
		span.Dot(a[:2], b[:2])
		span.Norm(a[:2])
		span.CheckTable(table[:2])
		span.Look(table[:2], ints(0, 3))
	}
	if !slices.Equal(a, times(4, ints(1, 2))) || !slices.Equal(b, times(4, ints(3, 4))) || !slices.Equal(table, steps(4)) {
		t.Error("an argument has been changed")
	}
}

// TestAgain checks that a result depends on the arguments alone.
func TestAgain(t *testing.T) {
	r := random()
	for name, f := range binaries() {
		for range 300 {
			a, b := randomSpan(r), randomSpan(r)
			x, e := f(a, b)
			f(b, a)
			f(raw(1, 0), b)
			y, i := f(a, b)
			is(t, name+" once more", y, i, x, e)
		}
	}
}

// TestAnyArguments calls all functions with numbers of any kind: none may panic, and with an error all other results are zero (P0.1, R2).
func TestAnyArguments(t *testing.T) {
	r := random()
	anyNum := func() api.Num {
		if r.IntN(4) == 0 {
			return append(edges(), none)[r.IntN(len(edges())+1)]
		}
		return api.Num(r.Uint64())
	}
	for range 5000 {
		a, b := raw(anyNum(), anyNum()), raw(anyNum(), anyNum())
		n, m := anyNum(), anyNum()
		zero := func(name string, x api.Span, e api.Errno) {
			t.Helper()
			if e != api.OK && x != (api.Span{}) || e == api.OK && !valid(x) {
				t.Errorf("%s of %v, %v, %d, %d: %v, error %d", name, a, b, n, m, x, e)
			}
		}
		for name, f := range unaries() {
			x, e := f(a)
			zero(name, x, e)
		}
		for name, f := range binaries() {
			x, e := f(a, b)
			zero(name, x, e)
		}
		x, e := span.Point(n)
		zero("Point", x, e)
		x, e = span.Of(int(n))
		zero("Of", x, e)
		x, e = span.Ratio(int(n), int(m))
		zero("Ratio", x, e)
		x, e = span.Scale(a, int(n))
		zero("Scale", x, e)
		x, e = span.Grow(a, n)
		zero("Grow", x, e)
		x, e = span.Look([]api.Point{{At: n, Value: a}, {At: m, Value: b}}, a)
		zero("Look", x, e)
		x, e = span.Read(span.Text(n))
		zero("Read", x, e)
		low, high, e := span.Split(a)
		zero("Split", low, e)
		zero("Split", high, e)
		if mid, e := span.Mid(a); e == api.OK && !span.In(a, mid) || e != api.OK && mid != 0 {
			t.Errorf("Mid(%v) is %d, error %d", a, mid, e)
		}
		if width, e := span.Wide(a); e == api.OK && width < 0 || e != api.OK && width != 0 {
			t.Errorf("Wide(%v) is %d, error %d", a, width, e)
		}
	}
}

// TestExamples has the table of the chapter's section Examples.
func TestExamples(t *testing.T) {
	a, e := span.Of(-3)
	is(t, "Of(-3)", a, e, ints(-3, -3), api.OK)
	a, e = span.Ratio(1, 3)
	is(t, "Ratio(1, 3)", a, e, raw(1431655765, 1431655766), api.OK)
	a, e = span.Read("0.5")
	is(t, "Read 0.5", a, e, raw(api.One/2, api.One/2), api.OK)
	a, e = span.Read("0.1")
	is(t, "Read 0.1", a, e, raw(429496729, 429496730), api.OK)
	for _, s := range []string{"-0", "01", "1."} {
		a, e = span.Read(s)
		is(t, "Read "+s, a, e, api.Span{}, api.ErrForm)
	}
	for _, c := range []struct {
		n    api.Num
		want string
	}{{api.One, "1"}, {-api.One / 4, "-0.25"}, {1, "0.00000000023283064365386962890625"}} {
		if got := span.Text(c.n); got != c.want {
			t.Errorf("Text(%d) is %q", c.n, got)
		}
	}
	a, e = span.Mul(ints(-1, 2), ints(3, 4))
	is(t, "Mul", a, e, ints(-4, 8), api.OK)
	a, e = span.Div(ints(1, 2), ints(-4, -2))
	is(t, "Div", a, e, raw(-api.One, -api.One/4), api.OK)
	a, e = span.Div(ints(1, 2), ints(-1, 1))
	is(t, "Div by what contains 0", a, e, api.Span{}, api.ErrZero)
	a, e = span.Square(ints(-2, 1))
	is(t, "Square", a, e, ints(0, 4), api.OK)
	a, e = span.Root(ints(-9, 4))
	is(t, "Root", a, e, ints(0, 2), api.OK)
	a, e = span.Root(ints(-2, -1))
	is(t, "Root of negative numbers", a, e, api.Span{}, api.ErrRange)
	n, e := span.Mid(ints(0, 1))
	is(t, "Mid(0, 1)", n, e, api.One/2, api.OK)
	n, e = span.Mid(raw(0, 1))
	is(t, "Mid(0, 2^-32)", n, e, 0, api.OK)
	table := []api.Point{{At: 0, Value: ints(1, 2)}, {At: 10 * api.One, Value: ints(3, 6)}}
	a, e = span.Look(table, ints(5, 20))
	is(t, "Look(5, 20)", a, e, ints(2, 6), api.OK)
	a, e = span.Look(table, ints(-7, -7))
	is(t, "Look(-7, -7)", a, e, ints(1, 2), api.OK)
	three, _ := span.Ratio(3, 5)
	four, _ := span.Ratio(4, 5)
	c, s, e := span.Turn(raw(api.One/2, api.One/2))
	is(t, "Turn of 1/2, the first", c, e, three, api.OK)
	is(t, "Turn of 1/2, the second", s, e, four, api.OK)
	c, s, e = span.Turn(ints(-1, 1))
	is(t, "Turn of (-1, 1), the first", c, e, ints(0, 1), api.OK)
	is(t, "Turn of (-1, 1), the second", s, e, ints(-1, 1), api.OK)
	a, e = span.Dot([]api.Span{ints(1, 1), ints(2, 2)}, []api.Span{ints(3, 3), ints(4, 4)})
	is(t, "Dot", a, e, ints(11, 11), api.OK)
}
