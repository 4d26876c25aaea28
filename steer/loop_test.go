package steer_test

// P5.3 (Routh), P5.4 (corners, robust), and what follows of stability.

import (
	"math/big"
	"math/rand/v2"
	"slices"
	"testing"

	"ullage/api"
	"ullage/steer"
)

// badPolynomials returns polynomials that are not valid.
func badPolynomials() [][]api.Span {
	l := [][]api.Span{nil, {}, points(1), points(0), points(0, 1), points(-1, 1), points(-1, -3, -2), points(make([]int, 9)...), points(1, 9, 9, 9, 9, 9, 9, 9, 9, 9), points(1, 1, 1, 1, 1, 1, 1, 1, 1, 1, 1)}
	l = append(l, []api.Span{ints(0, 1), ints(1, 1)}, []api.Span{ints(-1, 1), ints(1, 1)})
	for _, a := range badSpans() {
		for n := 2; n <= 9; n++ {
			for i := range n {
				p := points(1, 2, 3, 4, 5, 6, 7, 8, 9)[:n]
				p[i] = a
				l = append(l, p)
			}
		}
	}
	return l
}

func TestPolynomialsThatAreNotValid(t *testing.T) {
	good := points(1, 3, 2)
	for _, p := range badPolynomials() {
		v, e := steer.Routh(p)
		is(t, "Routh", v, e, 0, api.ErrArg)
		v, e = steer.Robust(p)
		is(t, "Robust", v, e, 0, api.ErrArg)
		l, e := steer.Corners(p)
		for _, c := range l {
			are(t, "Corners", c, e, nil, api.ErrArg)
		}
		v, e = steer.Margin(p, good, 4)
		is(t, "Margin", v, e, 0, api.ErrArg)
		v, e = steer.Margin(points(1, 9, 9, 9, 9, 9, 9, 9, 9), p, 4)
		is(t, "Margin", v, e, 0, api.ErrArg)
	}
	for n := 2; n <= 9; n++ {
		p := append([]api.Span{at(1)}, points(9, 9, 9, 9, 9, 9, 9, 9)...)[:n]
		_, e := steer.Routh(p)
		is(t, "Routh", 0, e, 0, api.OK)
		_, e = steer.Robust(p)
		is(t, "Robust", 0, e, 0, api.OK)
		_, e = steer.Corners(p)
		is(t, "Corners", 0, e, 0, api.OK)
		_, e = steer.Margin(p, p, 0)
		is(t, "Margin", 0, e, 0, api.OK)
	}
}

func TestRouthByHand(t *testing.T) {
	all := raw(-api.MostNum, api.MostNum)
	much := ints(1<<20, 1<<20)
	for _, c := range []struct {
		p    []api.Span
		want int
	}{
		{points(1, 3, 2), 1},
		{points(1, -3, 2), -1},
		{points(1, 0, 1), 0},
		{points(2, 1), 1},
		{points(2, 0), 0},
		{points(2, -1), -1},
		{points(1, 2, 3, 1), 1},
		{points(1, 1, 1, 6), -1},
		{points(1, 1, 1, 1), 0},
		{points(1, 3, 0), 0},
		{points(1, 3, -2), -1},
		{points(1, 0, -1), 0},
		{points(1, 0, 2, 1), 0},
		{points(1, 2, 4, 8, 1), 0},
		{points(1, 10, 35, 50, 24), 1},
		{points(1, 8, 28, 56, 70, 56, 28, 8, 1), 1},
		{points(1, 8, 28, 56, 70, 56, 28, 8, -1), -1},
		// One span is on both sides of 0, but a row before it is below 0.
		{[]api.Span{ints(1, 1), ints(-1, 1), ints(1, 1)}, 0},
		{[]api.Span{ints(1, 1), ints(-1, 0), ints(1, 1)}, 0},
		{[]api.Span{ints(1, 1), ints(0, 1), ints(1, 1)}, 0},
		{[]api.Span{ints(1, 1), ints(-2, -1), all}, -1},
		{[]api.Span{ints(1, 1), ints(1, 2), ints(-1, 1)}, 0},
		{[]api.Span{ints(1, 1), ints(1, 2), ints(-2, -1)}, -1},
		{[]api.Span{raw(1, api.One), raw(1, api.One)}, 1},
		// What is rounded out may have 0: a half of 2^-32 is from 0 to 2^-32.
		{[]api.Span{ints(1, 1), at(1), at(api.One / 2)}, 0},
		// An operation does not fit: nothing is known of the row, even if its first element is below 0.
		{append([]api.Span{ints(1, 1)}, all, all), 0},
		{[]api.Span{ints(1, 1), much, at(api.MostNum)}, 0},
		{[]api.Span{ints(1, 1), much, ints(1, 1), much, ints(1<<12, 1<<12)}, 0},
		{[]api.Span{ints(1, 1), much, ints(-1, -1), much, ints(1, 1)}, -1},
		{[]api.Span{ints(1, 1), much, ints(-1, -1), much, ints(1<<12, 1<<12)}, 0},
		{[]api.Span{ints(1, 1), ints(-1, -1), ints(-1, -1), much, at(api.MostNum)}, -1},
	} {
		v, e := steer.Routh(c.p)
		is(t, "Routh", v, e, c.want, api.OK)
	}
}

// exactRouth makes the whole array, with as many columns in each row, where the ones behind the last coefficients are 0.
func exactRouth(p []api.Span) int {
	n := len(p) - 1
	var rows [9][9]api.Span
	for i, a := range p {
		rows[i%2][i/2] = a
	}
	length := [9]int{(n + 2) / 2, (n + 1) / 2}
	for k := 0; k <= n; k++ {
		first := rows[k][0]
		if first.Hi < 0 {
			return -1
		}
		if first.Lo <= 0 {
			return 0
		}
		if k == 0 || k == n {
			continue
		}
		var s sheet
		length[k+1] = length[k-1] - 1
		for j := range length[k+1] {
			a := s.times(rows[k][0], rows[k-1][j+1])
			b := s.times(rows[k-1][0], rows[k][j+1])
			rows[k+1][j] = s.over(s.minus(a, b), rows[k][0])
		}
		if s.e != api.OK {
			return 0
		}
	}
	return 1
}

// randomPolynomial returns a polynomial: coefficients of any size, or a product of factors, with a width.
func randomPolynomial(r *rand.Rand) []api.Span {
	if r.IntN(4) == 0 {
		p := []api.Span{anySpan(r)}
		for range 1 + r.IntN(8) {
			p = append(p, anySpan(r))
		}
		for i, a := range p {
			if !isValid(a) {
				p[i] = at(1)
			}
		}
		p[0].Hi = max(p[0].Hi, 1)
		p[0].Lo = max(p[0].Lo, 1)
		return p
	}
	p, _ := product(r, 1+r.IntN(8), 6)
	width := api.One >> r.IntN(33)
	var out []api.Span
	for _, n := range p {
		out = append(out, around(r, api.Num(n)*api.One, width))
	}
	out[0].Lo = max(out[0].Lo, 1)
	return out
}

// product returns a product of factors s + r and s s + b s + c with integers, of a degree, and whether they are all above 0.
func product(r *rand.Rand, degree, most int) (p []int, good bool) {
	p, good = []int{1}, true
	bad := r.IntN(2) == 0
	number := func() int {
		n := 1 + r.IntN(most)
		if bad && r.IntN(4) == 0 {
			n = -r.IntN(most)
		}
		good = good && n > 0
		return n
	}
	for len(p) <= degree {
		factor := []int{1, number()}
		if len(p) < degree && r.IntN(2) == 0 {
			factor = append(factor, number())
		}
		next := make([]int, len(p)+len(factor)-1)
		for i, a := range p {
			for j, b := range factor {
				next[i+j] += a * b
			}
		}
		p = next
	}
	return p, good
}

func TestRouth(t *testing.T) {
	r := random()
	counts := map[int]int{}
	for range 8000 {
		p := randomPolynomial(r)
		v, e := steer.Routh(p)
		is(t, "Routh", v, e, exactRouth(p), api.OK)
		counts[v]++
		if t.Failed() {
			t.Fatal(p)
		}
	}
	if counts[1] < 500 || counts[-1] < 500 || counts[0] < 500 {
		t.Errorf("the results are %v", counts)
	}
}

// TestRouthOfProducts checks P5.10: a product of factors has no Routh of 1 if one of their numbers is not above 0, and none of -1 if all are.
func TestRouthOfProducts(t *testing.T) {
	r := random()
	counts := map[int]int{}
	for range 8000 {
		p, good := product(r, 1+r.IntN(8), 8)
		v, e := steer.Routh(points(p...))
		if e != api.OK || v == 1 && !good || v == -1 && good {
			t.Errorf("Routh of %v: %d, error %d; all factors are above 0: %v", p, v, e, good)
		}
		counts[v]++
	}
	if counts[1] < 2000 || counts[-1] < 2000 {
		t.Errorf("the results are %v", counts)
	}
}

// isStable reports whether a polynomial with these coefficients is stable, and whether that is known: not, if a row of its array begins with 0.
func isStable(p []api.Num) (stable, known bool) {
	var last, row []*big.Rat
	for i, n := range p {
		if i%2 == 0 {
			last = append(last, exact(n))
		} else {
			row = append(row, exact(n))
		}
	}
	for range len(p) - 1 {
		if row[0].Sign() <= 0 {
			return false, row[0].Sign() < 0
		}
		var next []*big.Rat
		for j := 1; j < len(last); j++ {
			a := new(big.Rat).Set(last[j])
			if j < len(row) {
				by := new(big.Rat).Quo(last[0], row[0])
				a.Sub(a, by.Mul(by, row[j]))
			}
			next = append(next, a)
		}
		last, row = row, next
	}
	return true, true
}

// TestStableForAll checks P5.10 with coefficients in the spans: all are stable if Routh or Robust is 1, none is if Routh is -1, and one of the corners is not if Robust is -1.
func TestStableForAll(t *testing.T) {
	r := random()
	var stable, not int
	for range 4000 {
		p := randomPolynomial(r)
		routh, _ := steer.Routh(p)
		robust, _ := steer.Robust(p)
		for range 4 {
			var x []api.Num
			for _, a := range p {
				x = append(x, inside(r, a))
			}
			is, known := isStable(x)
			if !known {
				continue
			}
			if is && routh == -1 || !is && (routh == 1 || robust == 1) {
				t.Errorf("%v: Routh %d, Robust %d, but %v is stable: %v", p, routh, robust, x, is)
			}
			if is {
				stable++
			} else {
				not++
			}
		}
		if robust == -1 && !hasBadCorner(t, p) {
			t.Errorf("%v: Robust is -1, but all corners are stable", p)
		}
	}
	if stable < 2000 || not < 2000 {
		t.Errorf("only %d are stable, %d are not", stable, not)
	}
}

// hasBadCorner reports whether a corner of a polynomial, which is one of those that it stands for, is not stable.
func hasBadCorner(t *testing.T, p []api.Span) bool {
	t.Helper()
	l, e := steer.Corners(p)
	is(t, "Corners", 0, e, 0, api.OK)
	for _, c := range l {
		var x []api.Num
		for i, a := range c {
			if a.Lo != a.Hi || a.Lo < p[i].Lo || a.Lo > p[i].Hi {
				t.Errorf("the corner %v is not one of %v", c, p)
			}
			x = append(x, a.Lo)
		}
		if stable, known := isStable(x); known && !stable {
			return true
		}
	}
	return false
}

func TestCorners(t *testing.T) {
	// From the power 0 on.
	ends := []string{"LLHHLLHHL", "HHLLHHLLH", "LHHLLHHLL", "HLLHHLLHH"}
	r := random()
	for range 500 {
		for n := 2; n <= 9; n++ {
			var p []api.Span
			for range n {
				p = append(p, raw(1+api.Num(r.IntN(9)), 10+api.Num(r.IntN(9))))
			}
			l, e := steer.Corners(p)
			for i, c := range l {
				want := make([]api.Span, n)
				for power := range n {
					j := n - 1 - power
					want[j] = at(p[j].Lo)
					if ends[i][power] == 'H' {
						want[j] = at(p[j].Hi)
					}
				}
				are(t, "a corner", c, e, want, api.OK)
			}
		}
	}
}

func TestCornersByHand(t *testing.T) {
	l, e := steer.Corners([]api.Span{ints(9, 10), ints(7, 8), ints(5, 6), ints(3, 4), ints(1, 2)})
	for i, want := range [][]api.Span{points(9, 8, 6, 3, 1), points(10, 7, 5, 4, 2), points(9, 7, 6, 4, 1), points(10, 8, 5, 3, 2)} {
		are(t, "a corner", l[i], e, want, api.OK)
	}
	l, e = steer.Corners([]api.Span{ints(3, 4), ints(1, 2)})
	for i, want := range [][]api.Span{points(3, 1), points(4, 2), points(4, 1), points(3, 2)} {
		are(t, "a corner", l[i], e, want, api.OK)
	}
	l, e = steer.Corners([]api.Span{ints(1, 1), raw(-api.MostNum, api.MostNum), ints(-2, 5)})
	one, most, least := at(api.One), at(api.MostNum), at(-api.MostNum)
	for i, want := range [][]api.Span{{one, least, ints(-2, -2)}, {one, most, ints(5, 5)}, {one, most, ints(-2, -2)}, {one, least, ints(5, 5)}} {
		are(t, "a corner", l[i], e, want, api.OK)
	}
}

func TestRobustByHand(t *testing.T) {
	one := ints(1, 1)
	for _, c := range []struct {
		p    []api.Span
		want int
	}{
		{[]api.Span{one, ints(1, 2), one}, 1},
		{[]api.Span{one, ints(-2, -1), one}, -1},
		{[]api.Span{one, ints(-1, 1), one}, -1},
		{[]api.Span{one, ints(0, 1), one}, 0},
		{[]api.Span{one, ints(0, 0), one}, 0},
		{[]api.Span{one, ints(1, 2), ints(0, 1)}, 0},
		{[]api.Span{one, ints(1, 2), ints(-1, 1)}, -1},
		{[]api.Span{one, ints(1, 2)}, 1},
		{[]api.Span{one, ints(0, 2)}, 0},
		{[]api.Span{one, ints(-1, 2)}, -1},
		// Surely stable for all, though Routh cannot tell: s s s + a s s + 2 s + b.
		{[]api.Span{one, ints(2, 9), ints(2, 2), ints(1, 3)}, 1},
		// Only one of the corners is not stable: it has the greatest number and the least factors of s and s s.
		{[]api.Span{one, ints(1, 9), ints(1, 9), raw(api.One, 2*api.One)}, -1},
		{[]api.Span{one, ints(1, 9), ints(1, 9), raw(api.One/2, api.One*3/4)}, 1},
		{[]api.Span{ints(1, 2), ints(1, 9), ints(1, 9), raw(api.One/4, api.One/3)}, 1},
		{[]api.Span{ints(1, 4), ints(1, 9), ints(1, 9), raw(api.One/4, api.One/3)}, -1},
	} {
		v, e := steer.Robust(c.p)
		is(t, "Robust", v, e, c.want, api.OK)
	}
	v, e := steer.Routh([]api.Span{one, ints(2, 9), ints(2, 2), ints(1, 3)})
	is(t, "Routh where Robust is 1", v, e, 1, api.OK)
}

// exactRobust tries the four corners.
func exactRobust(p []api.Span) int {
	worst := 1
	for _, high := range [][4]bool{{false, false, true, true}, {true, true, false, false}, {false, true, true, false}, {true, false, false, true}} {
		c := slices.Clone(p)
		for j := range c {
			if high[(len(p)-1-j)%4] {
				c[j].Lo = c[j].Hi
			} else {
				c[j].Hi = c[j].Lo
			}
		}
		worst = min(worst, exactRouth(c))
	}
	return worst
}

func TestRobust(t *testing.T) {
	r := random()
	counts := map[int]int{}
	more := 0
	for range 4000 {
		p := randomPolynomial(r)
		v, e := steer.Robust(p)
		is(t, "Robust", v, e, exactRobust(p), api.OK)
		counts[v]++
		if routh, _ := steer.Routh(p); routh == 0 && v != 0 {
			more++
		}
		if t.Failed() {
			t.Fatal(p)
		}
	}
	if counts[1] < 500 || counts[-1] < 500 || counts[0] < 100 || more < 100 {
		t.Errorf("the results are %v, %d of them where Routh cannot tell", counts, more)
	}
}

// TestRobustForNarrower checks P5.10: what is robust for wider spans is not -1 for narrower ones.
func TestRobustForNarrower(t *testing.T) {
	r := random()
	robust := 0
	for range 4000 {
		p := randomPolynomial(r)
		if v, _ := steer.Robust(p); v != 1 {
			continue
		}
		robust++
		var narrow []api.Span
		for _, a := range p {
			narrow = append(narrow, within(r, a))
		}
		if v, e := steer.Robust(narrow); v == -1 || e != api.OK {
			t.Errorf("%v is robust, but %v is %d, error %d", p, narrow, v, e)
		}
	}
	if robust < 500 {
		t.Errorf("only %d are robust", robust)
	}
}
