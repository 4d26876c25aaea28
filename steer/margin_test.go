package steer_test

// P5.4 (margins).

import (
	"math/rand/v2"
	"testing"

	"ullage/api"
	"ullage/steer"
)

func TestMarginByHand(t *testing.T) {
	for _, c := range []struct {
		p, q       []api.Span
		most, want int
	}{
		{points(1, 1, 0), points(1, 1), 64, 63},
		{points(1, 1, 0), points(1, 1), 63, 63},
		{points(1, 1, 0), points(1, 1), 62, 62},
		{points(1, 1, 0), points(1, 1), 1, 1},
		{points(1, 1, 0), points(1, 1), 0, 0},
		{points(1, 1, 1), points(1, 1), 64, 64},
		{points(1, 1), points(1, 1), 64, 64},
		// s + k (s + 1) has the root 0 only if k is 0.
		{points(1, 0), points(1, 1), 64, 63},
		// s s s + s s + s + k c is stable if k c is from 0 to 1.
		{points(1, 1, 1, 0), []api.Span{at(1), at(api.One / 2)}, 64, 63},
		{append(points(1, 1, 1), at(0)), []api.Span{at(1), at(api.One*2/3 + 1)}, 64, 31},
		{append(points(1, 1, 1), at(0)), []api.Span{at(1), at(api.One / 3 * 2)}, 64, 31},
		// What the gain has to make stable: s s + (c k - 1) s + 2.
		{points(1, -1, 2), points(1, 0), 64, -1},
		{points(1, -1, 2), points(2, 0), 64, 31},
		{points(1, -1, 2), points(4, 0), 64, 47},
		{points(1, 0, 2), points(1, 0), 64, 63},
		{points(1, -2, 2), points(1, 0), 64, -1},
		// The sum does not fit at m = 0, or only later.
		{points(1, 1), []api.Span{at(1), at(api.MostNum)}, 64, -1},
		{[]api.Span{ints(1, 1), at(api.MostNum - api.One)}, points(1, 1), 64, 0},
		{[]api.Span{ints(1, 1), at(api.MostNum - api.One - 1<<26)}, points(1, 1), 64, 1},
		{points(1, 1), []api.Span{at(1), at(api.MostNum - api.One)}, 64, 0},
		{points(1, 0), []api.Span{at(1), at(1 << 62)}, 64, 63},
		{[]api.Span{ints(1, 1), ints(0, 1)}, []api.Span{ints(1, 2), ints(1, 2)}, 64, 63},
		{[]api.Span{ints(1, 1), raw(-1, api.One)}, []api.Span{ints(1, 2), ints(1, 2)}, 64, 63},
		{[]api.Span{ints(1, 1), raw(-api.One/64, api.One)}, []api.Span{ints(1, 2), ints(1, 2)}, 64, 62},
		{[]api.Span{ints(1, 1), raw(-api.One, api.One)}, []api.Span{ints(1, 2), ints(1, 2)}, 64, -1},
	} {
		n, e := steer.Margin(c.p, c.q, c.most)
		is(t, "Margin", n, e, c.want, api.OK)
		if t.Failed() {
			t.Fatal(c)
		}
	}
}

func TestMarginErrors(t *testing.T) {
	p, q := points(1, 1, 0), points(1, 1)
	for _, most := range []int{-1, 65, 1 << 40, -1 << 63, 1<<63 - 1} {
		n, e := steer.Margin(p, q, most)
		is(t, "most out of range", n, e, 0, api.ErrArg)
	}
	for most := range 65 {
		n, e := steer.Margin(p, q, most)
		is(t, "most", n, e, min(most, 63), api.OK)
	}
	n, e := steer.Margin(q, p, 4)
	is(t, "q is longer", n, e, 0, api.ErrArg)
	n, e = steer.Margin(p, points(1, 1, 1), 4)
	is(t, "q is as long", n, e, 4, api.OK)
}

// exactMargin goes from m to m.
func exactMargin(p, q []api.Span, most int) int {
	found := -1
	for m := 0; m <= most; m++ {
		var s sheet
		k := raw(api.Num(64-m)<<26, api.Num(64+m)<<26)
		var sum []api.Span
		for power := len(p) - 1; power >= 0; power-- {
			a := p[len(p)-1-power]
			if power < len(q) {
				a = s.plus(a, s.times(k, q[len(q)-1-power]))
			}
			sum = append(sum, a)
		}
		if s.e != api.OK || exactRobust(sum) != 1 {
			break
		}
		found = m
	}
	return found
}

// randomLoop returns the p and q of a loop that is stable, for k = 1, but for their widths.
func randomLoop(r *rand.Rand) (p, q []api.Span) {
	closed, _ := product(r, 1+r.IntN(5), 6)
	by := 1 + r.IntN(20)
	width := api.One >> r.IntN(33)
	n := 2 + r.IntN(len(closed)-1)
	for i, a := range closed {
		a *= by
		if i >= len(closed)-n {
			b := r.IntN(20*by) - 10*by
			if i == len(closed)-n {
				b = 1 + r.IntN(by)
			}
			a -= b
			q = append(q, around(r, api.Num(b)*api.One, width))
		}
		p = append(p, around(r, api.Num(a)*api.One, width))
	}
	p[0].Lo, p[0].Hi = max(1, p[0].Lo), max(1, p[0].Hi)
	q[0].Lo = max(1, q[0].Lo)
	return p, q
}

func TestMargin(t *testing.T) {
	r := random()
	counts := map[int]int{}
	for range 400 {
		p, q := randomLoop(r)
		if r.IntN(4) == 0 {
			p, q = randomPolynomial(r), randomPolynomial(r)
			if len(p) < len(q) {
				p, q = q, p
			}
		}
		most := r.IntN(65)
		n, e := steer.Margin(p, q, most)
		is(t, "Margin", n, e, exactMargin(p, q, most), api.OK)
		switch {
		case n == -1:
			counts[-1]++
		case n == most:
			counts[1]++
		default:
			counts[0]++
		}
	}
	if counts[-1] < 30 || counts[0] < 30 || counts[1] < 30 {
		t.Errorf("the margins are %v", counts)
	}
}
