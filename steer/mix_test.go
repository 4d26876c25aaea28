package steer_test

// P5.7 (jets), and what follows of them.

import (
	"math/big"
	"math/rand/v2"
	"testing"

	"ullage/api"
	"ullage/steer"
)

// jets returns jets with torques.
func jets(l ...[3]int) []api.Jet {
	var out []api.Jet
	for _, t := range l {
		out = append(out, api.Jet{Torque: t})
	}
	return out
}

// mixed is what Mix returns.
type mixed struct {
	on   int
	rest [3]int
}

func mix(l []api.Jet, failed int, want [3]int) (mixed, api.Errno) {
	on, rest, e := steer.Mix(l, failed, want)
	return mixed{on, rest}, e
}

func TestMixByHand(t *testing.T) {
	three := jets([3]int{3, 0, 0}, [3]int{2, 0, 0}, [3]int{1, 0, 0})
	for _, c := range []struct {
		l      []api.Jet
		failed int
		want   [3]int
		mixed  mixed
	}{
		{nil, 0, [3]int{}, mixed{}},
		{nil, 0, [3]int{1, -2, 3}, mixed{0, [3]int{1, -2, 3}}},
		{three, 0, [3]int{4, 0, 0}, mixed{5, [3]int{}}},
		{three, 1, [3]int{4, 0, 0}, mixed{6, [3]int{1, 0, 0}}},
		{three, 2, [3]int{4, 0, 0}, mixed{5, [3]int{}}},
		{three, 4, [3]int{4, 0, 0}, mixed{1, [3]int{1, 0, 0}}},
		{three, 7, [3]int{4, 0, 0}, mixed{0, [3]int{4, 0, 0}}},
		{three, 0, [3]int{-4, 0, 0}, mixed{0, [3]int{-4, 0, 0}}},
		{three, 0, [3]int{9, 0, 0}, mixed{7, [3]int{3, 0, 0}}},
		// 3 is made by one jet, not by two; so is a rest of 1, on either side.
		{three, 0, [3]int{3, 0, 0}, mixed{1, [3]int{}}},
		{three, 1, [3]int{3, 0, 0}, mixed{6, [3]int{}}},
		{jets([3]int{2, 0, 0}, [3]int{4, 0, 0}), 0, [3]int{3, 0, 0}, mixed{1, [3]int{1, 0, 0}}},
		{jets([3]int{4, 0, 0}, [3]int{2, 0, 0}), 0, [3]int{3, 0, 0}, mixed{1, [3]int{-1, 0, 0}}},
		{jets([3]int{2, 0, 0}), 0, [3]int{1, 0, 0}, mixed{0, [3]int{1, 0, 0}}},
		// Of equal jets the first ones are on; of masks as good as each other the least one.
		{jets([3]int{1, 1, 1}, [3]int{1, 1, 1}, [3]int{1, 1, 1}), 0, [3]int{2, 2, 2}, mixed{3, [3]int{}}},
		{jets([3]int{1, 1, 1}, [3]int{1, 1, 1}, [3]int{1, 1, 1}), 2, [3]int{2, 2, 2}, mixed{5, [3]int{}}},
		{jets([3]int{4, 0, 0}, [3]int{1, 0, 0}, [3]int{2, 0, 0}, [3]int{3, 0, 0}), 0, [3]int{5, 0, 0}, mixed{3, [3]int{}}},
		{jets([3]int{}, [3]int{5, 0, 0}), 0, [3]int{5, 0, 0}, mixed{2, [3]int{}}},
		// Squares count, not sums, nor the greatest part.
		{jets([3]int{3, -2, -2}, [3]int{0, 0, 1}), 1, [3]int{3, 0, 0}, mixed{0, [3]int{3, 0, 0}}},
		{jets([3]int{3, -2, -2}), 0, [3]int{3, 0, 0}, mixed{1, [3]int{0, 2, 2}}},
		{jets([3]int{2, -2, -2}), 0, [3]int{3, 0, 0}, mixed{0, [3]int{3, 0, 0}}},
		{jets([3]int{1, 1, 1}, [3]int{0, 5, 0}, [3]int{0, 0, -7}), 0, [3]int{1, 6, -6}, mixed{7, [3]int{}}},
	} {
		got, e := mix(c.l, c.failed, c.want)
		is(t, "Mix", got, e, c.mixed, api.OK)
	}
}

func TestMixOfMuch(t *testing.T) {
	var l []api.Jet
	for range 12 {
		l = append(l, jets([3]int{1 << 20, -1 << 20, 1 << 20})...)
	}
	most := [3]int{1 << 24, -1 << 24, 1 << 24}
	got, e := mix(l, 0, most)
	is(t, "Mix of much", got, e, mixed{1<<12 - 1, [3]int{4 << 20, -4 << 20, 4 << 20}}, api.OK)
	got, e = mix(l, 1<<11|1, most)
	is(t, "Mix of much", got, e, mixed{1<<11 - 2, [3]int{6 << 20, -6 << 20, 6 << 20}}, api.OK)
	got, e = mix(l, 1<<12-1, most)
	is(t, "Mix of much", got, e, mixed{0, most}, api.OK)
	for i := range most {
		most[i] = -most[i]
	}
	got, e = mix(l, 0, most)
	is(t, "Mix of much", got, e, mixed{0, most}, api.OK)
}

func TestJetsErrors(t *testing.T) {
	all := func(l []api.Jet, failed int, e api.Errno) {
		t.Helper()
		got, f := mix(l, failed, [3]int{})
		is(t, "Mix", got, f, mixed{}, e)
		b, f := steer.Spans(l, failed)
		is(t, "Spans", b, f, false, e)
	}
	safe := func(l []api.Jet, e api.Errno) {
		t.Helper()
		b, f := steer.Safe(l)
		is(t, "Safe", b, f, false, e)
	}
	for n := range 16 {
		want := api.OK
		if n > 12 {
			want = api.ErrLong
		}
		l := make([]api.Jet, n)
		all(l, 0, want)
		safe(l, want)
		for _, failed := range []int{1<<n - 1, 1 << n >> 1} {
			all(l, failed, want)
		}
		if n <= 12 {
			want = api.ErrArg
		}
		for _, failed := range []int{1 << n, 1<<n | 1, 1 << 40, -1, -1 << 63, 1<<63 - 1, -1 << 12, 1 << 62} {
			all(l, failed, want)
		}
		for i := range n {
			for axis := range 3 {
				for _, c := range []struct {
					n int
					e api.Errno
				}{{1 << 20, api.OK}, {-1 << 20, api.OK}, {1<<20 + 1, api.ErrArg}, {-1<<20 - 1, api.ErrArg}, {-1 << 63, api.ErrArg}, {1<<63 - 1, api.ErrArg}} {
					l := make([]api.Jet, n)
					l[i].Torque[axis] = c.n
					e := c.e
					if n > 12 {
						e = api.ErrLong
					}
					all(l, 1<<i, e)
					safe(l, e)
				}
			}
		}
	}
}

func TestMixErrors(t *testing.T) {
	for axis := range 3 {
		for _, c := range []struct {
			n int
			e api.Errno
		}{{1 << 24, api.OK}, {-1 << 24, api.OK}, {1<<24 + 1, api.ErrArg}, {-1<<24 - 1, api.ErrArg}, {-1 << 63, api.ErrArg}, {1<<63 - 1, api.ErrArg}} {
			var want, rest [3]int
			want[axis] = c.n
			if c.e == api.OK {
				rest = want
			}
			got, e := mix(make([]api.Jet, 2), 0, want)
			is(t, "Mix", got, e, mixed{0, rest}, c.e)
			got, e = mix(make([]api.Jet, 13), 0, want)
			is(t, "Mix of too many", got, e, mixed{}, api.ErrLong)
		}
	}
}

// exactMix tries all masks.
func exactMix(l []api.Jet, failed int, want [3]int) mixed {
	var best mixed
	least, fewest := big.NewInt(0), -1
	for on := range 1 << len(l) {
		if on&failed != 0 {
			continue
		}
		rest, n := want, 0
		for i, j := range l {
			if on&(1<<i) != 0 {
				n++
				for axis := range rest {
					rest[axis] -= j.Torque[axis]
				}
			}
		}
		sum := new(big.Int)
		for _, a := range rest {
			x := big.NewInt(int64(a))
			sum.Add(sum, x.Mul(x, x))
		}
		if c := sum.Cmp(least); fewest < 0 || c < 0 || c == 0 && n < fewest {
			best, least, fewest = mixed{on, rest}, sum, n
		}
	}
	return best
}

// randomJets returns jets, with torques of up to a size.
func randomJets(r *rand.Rand, n, size int) []api.Jet {
	var l []api.Jet
	for range n {
		var j api.Jet
		for axis := range 3 {
			if r.IntN(3) > 0 {
				j.Torque[axis] = r.IntN(2*size+1) - size
			}
		}
		l = append(l, j)
	}
	return l
}

func TestMix(t *testing.T) {
	r := random()
	for k := range 3000 {
		size := 1 << r.IntN(4)
		n := r.IntN(8)
		if k%20 == 0 {
			n, size = 9+r.IntN(4), 1<<r.IntN(21)
		}
		l := randomJets(r, n, size)
		failed := r.IntN(1<<n) & r.IntN(1<<n)
		var want [3]int
		for i := range want {
			want[i] = (r.IntN(2*size+1) - size) * (1 + r.IntN(3))
		}
		got, e := mix(l, failed, want)
		is(t, "Mix", got, e, exactMix(l, failed, want), api.OK)
		if t.Failed() {
			t.Fatal(l, failed, want)
		}
	}
}

// squares returns the sum of squares of what is left over.
func squares(l [3]int) int {
	return l[0]*l[0] + l[1]*l[1] + l[2]*l[2]
}

// TestMixAfterFailures checks P5.10: what is left over is not more than what any other mask leaves; after a failure it is not less.
func TestMixAfterFailures(t *testing.T) {
	r := random()
	for range 2000 {
		n := 1 + r.IntN(8)
		l := randomJets(r, n, 9)
		want := [3]int{r.IntN(41) - 20, r.IntN(41) - 20, r.IntN(41) - 20}
		failed := 0
		last := -1
		for failed < 1<<n-1 {
			got, e := mix(l, failed, want)
			if e != api.OK || got.on&failed != 0 || squares(got.rest) < last {
				t.Errorf("%v, want %v, failed %d: %v, error %d", l, want, failed, got, e)
			}
			last = squares(got.rest)
			rest := want
			for i, j := range l {
				if r.IntN(2) == 0 && failed>>i&1 == 0 {
					for axis := range rest {
						rest[axis] -= j.Torque[axis]
					}
				}
			}
			if squares(rest) < last {
				t.Errorf("%v, want %v, failed %d: %v, but %v can be left over", l, want, failed, got, rest)
			}
			failed |= 1 << r.IntN(n)
		}
	}
}

func TestSpansByHand(t *testing.T) {
	axes := jets([3]int{1, 0, 0}, [3]int{-1, 0, 0}, [3]int{0, 1, 0}, [3]int{0, -1, 0}, [3]int{0, 0, 1}, [3]int{0, 0, -1})
	corners := jets([3]int{1, 1, 1}, [3]int{1, -1, -1}, [3]int{-1, 1, -1}, [3]int{-1, -1, 1})
	far := 1 << 20
	for _, c := range []struct {
		l      []api.Jet
		failed int
		want   bool
	}{
		{nil, 0, false},
		{jets([3]int{}), 0, false},
		{make([]api.Jet, 12), 0, false},
		{jets([3]int{1, 2, 3}, [3]int{-1, -2, -3}, [3]int{2, 4, 6}), 0, false},
		{axes, 0, true},
		{axes, 1, false},
		{axes, 32, false},
		{axes, 63, false},
		{axes[:5], 0, false},
		{axes[:4], 0, false},
		{axes[2:], 0, false},
		{corners, 0, true},
		{corners, 1, false},
		{corners, 8, false},
		{corners[1:], 0, false},
		{append(jets([3]int{}, [3]int{}), corners...), 0, true},
		{append(jets([3]int{}, [3]int{}), corners...), 3, true},
		{append(jets([3]int{}, [3]int{}), corners...), 4, false},
		{append(axes, corners...), 1, true},
		// Three along axes, and one against all of them: or along one of them only.
		{jets([3]int{1, 0, 0}, [3]int{0, 1, 0}, [3]int{0, 0, 1}, [3]int{-1, -1, -1}), 0, true},
		{jets([3]int{1, 0, 0}, [3]int{0, 1, 0}, [3]int{0, 0, 1}, [3]int{-1, -1, 0}), 0, false},
		{jets([3]int{1, 0, 0}, [3]int{0, 1, 0}, [3]int{0, 0, 1}, [3]int{-1, -1, 1}), 0, false},
		{jets([3]int{1, 0, 0}, [3]int{0, 1, 0}, [3]int{0, 0, 1}, [3]int{-1, -1, 0}, [3]int{0, 0, -5}), 0, true},
		// All but one in a plane, and all of them on one side of it, or both sides.
		{jets([3]int{1, 0, 0}, [3]int{-1, 1, 0}, [3]int{-1, -1, 0}), 0, false},
		{jets([3]int{1, 0, 0}, [3]int{-1, 1, 0}, [3]int{-1, -1, 0}, [3]int{0, 0, 1}), 0, false},
		{jets([3]int{1, 0, 0}, [3]int{-1, 1, 0}, [3]int{-1, -1, 0}, [3]int{0, 0, 1}, [3]int{3, 3, -1}), 0, true},
		{jets([3]int{1, 0, 0}, [3]int{-1, 1, 0}, [3]int{-1, -1, 0}, [3]int{0, 0, 1}, [3]int{3, 3, 0}), 0, false},
		// Barely, with torques as great as they may be.
		{jets([3]int{far, far, -1}, [3]int{-far, far, -1}, [3]int{0, -far, -1}, [3]int{0, 0, far}), 0, true},
		{jets([3]int{far, far, 0}, [3]int{-far, far, 0}, [3]int{0, -far, 0}, [3]int{0, 0, far}), 0, false},
		{jets([3]int{far, far, 1}, [3]int{-far, far, 1}, [3]int{0, -far, 1}, [3]int{0, 0, far}), 0, false},
		{jets([3]int{far, far, far}, [3]int{far, -far, -far}, [3]int{-far, far, -far}, [3]int{-far, -far, far}), 0, true},
		{jets([3]int{far, far - 1, 1}, [3]int{1 - far, -far, 1}, [3]int{far, -far, -1}, [3]int{-far, far, -1}), 0, true},
		{jets([3]int{far, far - 1, 1}, [3]int{far - 1, far, 1}, [3]int{far, -far, -1}, [3]int{-far, far, -1}), 0, false},
	} {
		got, e := steer.Spans(c.l, c.failed)
		is(t, "Spans", got, e, c.want, api.OK)
		if want := exactSpans(c.l, c.failed); want != c.want {
			t.Errorf("the other way: %v", want)
		}
		if t.Failed() {
			t.Fatal(c)
		}
	}
}

// determinant returns the determinant of three torques.
func determinant(a, b, c [3]int) *big.Int {
	sum := new(big.Int)
	for i := range 3 {
		for _, k := range []int{1, 2} {
			x := big.NewInt(int64(3 - 2*k))
			x.Mul(x, big.NewInt(int64(a[i])))
			x.Mul(x, big.NewInt(int64(b[(i+k)%3])))
			sum.Add(sum, x.Mul(x, big.NewInt(int64(c[(i+3-k)%3]))))
		}
	}
	return sum
}

// makes reports whether a torque is a sum of three others, which lie in no plane, with factors that are not negative.
func makes(a, b, c, torque [3]int) bool {
	all := determinant(a, b, c)
	for _, part := range []*big.Int{determinant(torque, b, c), determinant(a, torque, c), determinant(a, b, torque)} {
		if part.Sign()*all.Sign() < 0 {
			return false
		}
	}
	return all.Sign() != 0
}

// isMade reports whether a torque is a sum of three of a list, with factors that are not negative.
func isMade(l [][3]int, torque [3]int) bool {
	for i, a := range l {
		for k, b := range l[:i] {
			for _, c := range l[:k] {
				if makes(a, b, c, torque) {
					return true
				}
			}
		}
	}
	return false
}

// exactSpans reports whether each torque along an axis is a sum of the torques of three jets, with factors that are not negative.
func exactSpans(l []api.Jet, failed int) bool {
	var on [][3]int
	for i, j := range l {
		if failed&(1<<i) == 0 {
			on = append(on, j.Torque)
		}
	}
	for axis := range 3 {
		for _, sign := range []int{1, -1} {
			var torque [3]int
			torque[axis] = sign
			if !isMade(on, torque) {
				return false
			}
		}
	}
	return true
}

func TestSpans(t *testing.T) {
	r := random()
	counts := map[bool]int{}
	safes := map[bool]int{}
	for k := range 2500 {
		size := 1 + r.IntN(3)
		if k%4 == 0 {
			size = 1 << r.IntN(21)
		}
		n := r.IntN(12)
		l := randomJets(r, n, size)
		failed := r.IntN(1<<n) & r.IntN(1<<n) & r.IntN(1<<n)
		want := exactSpans(l, failed)
		got, e := steer.Spans(l, failed)
		is(t, "Spans", got, e, want, api.OK)
		counts[got]++
		safe := n > 0
		for i := range l {
			safe = safe && exactSpans(l, 1<<i)
		}
		got, e = steer.Safe(l)
		is(t, "Safe", got, e, safe, api.OK)
		safes[got]++
		if t.Failed() {
			t.Fatal(l, failed)
		}
	}
	if counts[true] < 300 || counts[false] < 300 || safes[true] < 100 {
		t.Errorf("%v span the space, %v are safe", counts, safes)
	}
}

func TestSafeByHand(t *testing.T) {
	axes := jets([3]int{1, 0, 0}, [3]int{-1, 0, 0}, [3]int{0, 1, 0}, [3]int{0, -1, 0}, [3]int{0, 0, 1}, [3]int{0, 0, -1})
	corners := jets([3]int{1, 1, 1}, [3]int{1, -1, -1}, [3]int{-1, 1, -1}, [3]int{-1, -1, 1})
	both := append(append([]api.Jet{}, axes...), corners...)
	for _, c := range []struct {
		l    []api.Jet
		want bool
	}{
		{nil, false},
		{jets([3]int{1, 2, 3}), false},
		{axes, false},
		{corners, false},
		{append(append([]api.Jet{}, axes...), axes...), true},
		{append(append([]api.Jet{}, corners...), corners...), true},
		{append(append([]api.Jet{}, corners...), corners[1:]...), false},
		{append(append([]api.Jet{}, corners[1:]...), corners...), false},
		{append(append([]api.Jet{}, corners...), corners[:3]...), false},
		{both, true},
	} {
		got, e := steer.Safe(c.l)
		is(t, "Safe", got, e, c.want, api.OK)
	}
}

// TestMoreJetsSpan checks P5.10: if jets span the space, more of them do; and then each direction is helped by one.
func TestMoreJetsSpan(t *testing.T) {
	r := random()
	spanning := 0
	for range 3000 {
		n := 4 + r.IntN(6)
		l := randomJets(r, n, 1+r.IntN(9))
		failed := r.IntN(1<<n) & r.IntN(1<<n)
		less, _ := steer.Spans(l, failed)
		if !less {
			continue
		}
		spanning++
		more, e := steer.Spans(append(l, randomJets(r, 12-n, 5)...), failed&r.IntN(1<<n))
		is(t, "Spans of more jets", more, e, true, api.OK)
		for range 20 {
			d := [3]int{r.IntN(41) - 20, r.IntN(41) - 20, r.IntN(41) - 20}
			helped := d == [3]int{}
			for i, j := range l {
				helped = helped || failed>>i&1 == 0 && j.Torque[0]*d[0]+j.Torque[1]*d[1]+j.Torque[2]*d[2] > 0
			}
			if !helped {
				t.Errorf("no jet of %v helps %v, failed %d", l, d, failed)
			}
		}
	}
	if spanning < 300 {
		t.Errorf("only %d span the space", spanning)
	}
}
