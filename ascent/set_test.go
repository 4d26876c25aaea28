package ascent_test

// P4.5 (sets).

import (
	"math"
	"math/rand/v2"
	"slices"
	"testing"

	"ullage/api"
	"ullage/ascent"
)

// operation makes a set of two others.
type operation struct {
	name string
	make func(a, b []api.Slot) ([]api.Slot, api.Errno)
	keep func(inA, inB bool) bool
}

func operations() []operation {
	return []operation{
		{"Both", ascent.Both, func(inA, inB bool) bool { return inA && inB }},
		{"Either", ascent.Either, func(inA, inB bool) bool { return inA || inB }},
		{"Without", ascent.Without, func(inA, inB bool) bool { return inA && !inB }},
	}
}

// row returns so many slots of a length, one each distance, from a time on.
func row(n, from, length, distance int) []api.Slot {
	var l []api.Slot
	for i := range n {
		l = append(l, api.Slot{From: from + i*distance, To: from + i*distance + length})
	}
	return l
}

// badSets returns sets of times that are not valid, for one reason each.
func badSets() [][]api.Slot {
	l := [][]api.Slot{
		slots(0, 0), slots(1, 0), slots(0, 5, 5, 7), slots(0, 5, 4, 7), slots(0, 5, 0, 7), slots(5, 7, 0, 3), slots(0, 5, 6, 6), slots(0, 5, 7, 6), slots(0, 1, 2, 3, 3, 4),
		slots(5, 4, 6, 7), slots(0, 1, 8, 9, 2, 3), slots(0, api.MaxInstant+1), slots(-api.MaxInstant-1, 0), slots(math.MinInt, math.MaxInt), slots(math.MinInt, 0), slots(0, math.MaxInt),
		slots(0, 1, 2, api.MaxInstant+1), slots(api.MaxInstant, api.MaxInstant+1), slots(-api.MaxInstant-2, -api.MaxInstant-1), slots(api.MaxInstant, -api.MaxInstant),
		row(api.MaxSlots+1, 0, 1, 2), row(3*api.MaxSlots, 0, 1, 2),
	}
	return l
}

// goodSets returns sets of times that are valid, at the edges.
func goodSets() [][]api.Slot {
	return [][]api.Slot{
		nil, {}, slots(0, 1), slots(0, 1, 2, 3), slots(-api.MaxInstant, api.MaxInstant), slots(-api.MaxInstant, -api.MaxInstant+1, api.MaxInstant-1, api.MaxInstant),
		row(api.MaxSlots, 0, 1, 2), row(api.MaxSlots, -5000, 99, 100), slots(-5, -3, -2, 0, 1, 100),
	}
}

func TestSets(t *testing.T) {
	most := api.MaxInstant
	for _, c := range []struct {
		a, b                  []api.Slot
		both, either, without []api.Slot
	}{
		{slots(0, 10), slots(3, 5), slots(3, 5), slots(0, 10), slots(0, 3, 5, 10)},
		{slots(0, 5), slots(5, 7), nil, slots(0, 7), slots(0, 5)},
		{slots(5, 7), slots(0, 5), nil, slots(0, 7), slots(5, 7)},
		{slots(0, 5), slots(6, 7), nil, slots(0, 5, 6, 7), slots(0, 5)},
		{slots(0, 5), slots(4, 7), slots(4, 5), slots(0, 7), slots(0, 4)},
		{slots(0, 5), slots(0, 5), slots(0, 5), slots(0, 5), nil},
		{slots(0, 5), slots(0, 7), slots(0, 5), slots(0, 7), nil},
		{slots(0, 7), slots(0, 5), slots(0, 5), slots(0, 7), slots(5, 7)},
		{slots(0, 7), slots(5, 7), slots(5, 7), slots(0, 7), slots(0, 5)},
		{nil, slots(0, 5), nil, slots(0, 5), nil},
		{slots(0, 5), nil, nil, slots(0, 5), slots(0, 5)},
		{nil, nil, nil, nil, nil},
		{slots(0, 2, 4, 6, 8, 10), slots(2, 4, 6, 8), nil, slots(0, 10), slots(0, 2, 4, 6, 8, 10)},
		{slots(0, 2, 4, 6, 8, 10), slots(1, 9), slots(1, 2, 4, 6, 8, 9), slots(0, 10), slots(0, 1, 9, 10)},
		{slots(1, 9), slots(0, 2, 4, 6, 8, 10), slots(1, 2, 4, 6, 8, 9), slots(0, 10), slots(2, 4, 6, 8)},
		{slots(-most, most), slots(0, 1), slots(0, 1), slots(-most, most), slots(-most, 0, 1, most)},
		{slots(-most, 0), slots(0, most), nil, slots(-most, most), slots(-most, 0)},
		{slots(-most, -most+1, most-1, most), slots(-most, most), slots(-most, -most+1, most-1, most), slots(-most, most), nil},
	} {
		for i, o := range operations() {
			l, e := o.make(c.a, c.b)
			are(t, o.name, l, e, [][]api.Slot{c.both, c.either, c.without}[i], api.OK)
		}
	}
}

// TestSetsTimeByTime goes through all times of sets of few.
func TestSetsTimeByTime(t *testing.T) {
	r := random()
	for range 20000 {
		from := []int{0, -12, 1000, -api.MaxInstant, api.MaxInstant - 24}[r.IntN(5)]
		a, b := r.Uint32(), r.Uint32()
		if r.IntN(2) == 0 {
			a, b = a&r.Uint32()&r.Uint32(), b|r.Uint32()
		}
		has := func(set uint32) func(x int) bool {
			return func(x int) bool { return set>>(x-from)&1 == 1 }
		}
		set := func(holds func(x int) bool) []api.Slot { return setOf(from, from+24, holds) }
		count := 0
		for i := range 24 {
			count += int(a >> i & 1)
		}
		n, e := ascent.Total(set(has(a)))
		is(t, "Total", n, e, count, api.OK)
		for _, o := range operations() {
			l, e := o.make(set(has(a)), set(has(b)))
			are(t, o.name, l, e, set(func(x int) bool { return o.keep(has(a)(x), has(b)(x)) }), api.OK)
		}
	}
}

// TestLongSets has results of as many slots as there may be, and of one more.
func TestLongSets(t *testing.T) {
	n := api.MaxSlots
	long := row(n, 0, 10, 20)
	for _, c := range []struct {
		what string
		name string
		a, b []api.Slot
		want []api.Slot
		e    api.Errno
	}{
		{"apart", "Either", row(n/2, 0, 1, 2), row(n/2, n, 1, 2), row(n, 0, 1, 2), api.OK},
		{"apart, one more", "Either", row(n/2, 0, 1, 2), row(n/2+1, n, 1, 2), nil, api.ErrLong},
		{"one between", "Either", long, slots(12, 18), nil, api.ErrLong},
		{"one that joins two", "Either", long, slots(10, 20, 32, 38), append(slots(0, 30, 32, 38), long[2:]...), api.OK},
		{"two rows, which join", "Either", long, row(n, 10, 10, 20), slots(0, 20*n), api.OK},
		{"two rows, which do not join", "Either", long, row(n, 11, 8, 20), nil, api.ErrLong},
		{"a row of holes", "Without", slots(-5, 20*n-10), long, append(slots(-5, 0), row(n-1, 10, 10, 20)...), api.OK},
		{"a row of holes, one more", "Without", slots(-5, 20*n), long, nil, api.ErrLong},
		{"a row of holes in a row", "Without", long, row(n, 5, 1, 20), nil, api.ErrLong},
		{"a row of holes at ends", "Without", long, row(n, 5, 5, 20), row(n, 0, 5, 20), api.OK},
		{"all of a row", "Without", long, long, nil, api.OK},
		{"a row and all", "Both", long, slots(-5, 20*n+5), long, api.OK},
		{"a row and one that parts a slot", "Both", long, slots(-5, 5, 6, 20*n), nil, api.ErrLong},
		{"a row and one that parts a slot, not of the last", "Both", long, slots(-5, 5, 6, 20*n-20), append(slots(0, 5, 6, 10), long[1:n-1]...), api.OK},
		{"two rows", "Both", row(n, 0, 15, 20), row(n, 10, 15, 20), nil, api.ErrLong},
		{"two rows of nothing in common", "Both", long, row(n, 10, 10, 20), nil, api.OK},
	} {
		for _, o := range operations() {
			if o.name == c.name {
				l, e := o.make(c.a, c.b)
				are(t, o.name+", "+c.what, l, e, c.want, c.e)
			}
		}
	}
}

func TestSetsThatAreNotValid(t *testing.T) {
	for _, bad := range badSets() {
		n, e := ascent.Total(bad)
		is(t, "Total of a set that is not valid", n, e, 0, api.ErrArg)
		for _, good := range goodSets() {
			for _, o := range operations() {
				for _, c := range [][2][]api.Slot{{bad, good}, {good, bad}, {bad, bad}} {
					l, e := o.make(c[0], c[1])
					are(t, o.name+" of a set that is not valid", l, e, nil, api.ErrArg)
				}
			}
		}
	}
	for _, good := range goodSets() {
		for _, o := range operations() {
			_, e := o.make(good, nil)
			is(t, o.name, 0, e, 0, api.OK)
			_, e = o.make(nil, good)
			is(t, o.name, 0, e, 0, api.OK)
		}
	}
}

func TestTotal(t *testing.T) {
	for _, c := range []struct {
		l    []api.Slot
		want int
	}{
		{nil, 0}, {[]api.Slot{}, 0}, {slots(0, 1), 1}, {slots(-5, 5), 10}, {slots(0, 2, 10, 13, 20, 24), 9}, {slots(-api.MaxInstant, api.MaxInstant), 1 << 61},
		{row(api.MaxSlots, 7, 3, 10), 3 * api.MaxSlots}, {slots(-api.MaxInstant, 0, 1, api.MaxInstant), 1<<61 - 1},
	} {
		n, e := ascent.Total(c.l)
		is(t, "Total", n, e, c.want, api.OK)
	}
}

// randomSet returns a set of times.
func randomSet(r *rand.Rand) []api.Slot {
	var l []api.Slot
	x := r.IntN(40) - 20
	for range r.IntN(20) {
		to := x + 1 + r.IntN(12)
		l = append(l, api.Slot{From: x, To: to})
		x = to + 1 + r.IntN(12)
	}
	return l
}

// TestLawsOfSets checks that sets of times obey the laws of sets (P4.8).
func TestLawsOfSets(t *testing.T) {
	r := random()
	of := func(make func(a, b []api.Slot) ([]api.Slot, api.Errno)) func(a, b []api.Slot) []api.Slot {
		return func(a, b []api.Slot) []api.Slot {
			l, e := make(a, b)
			is(t, "a set", 0, e, 0, api.OK)
			return l
		}
	}
	both, either, without := of(ascent.Both), of(ascent.Either), of(ascent.Without)
	total := func(l []api.Slot) int {
		n, e := ascent.Total(l)
		is(t, "Total", 0, e, 0, api.OK)
		return n
	}
	for range 3000 {
		a, b, c := randomSet(r), randomSet(r), randomSet(r)
		for _, law := range []struct {
			what string
			x, y []api.Slot
		}{
			{"a with itself", either(a, a), both(a, a)},
			{"a with nothing", either(a, nil), without(a, nil)},
			{"both in either order", both(a, b), both(b, a)},
			{"either in either order", either(a, b), either(b, a)},
			{"both of three", both(both(a, b), c), both(a, both(b, c))},
			{"either of three", either(either(a, b), c), either(a, either(b, c))},
			{"both of either", both(a, either(b, c)), either(both(a, b), both(a, c))},
			{"either of both", either(a, both(b, c)), both(either(a, b), either(a, c))},
			{"without either", without(a, either(b, c)), both(without(a, b), without(a, c))},
			{"without both", without(a, both(b, c)), either(without(a, b), without(a, c))},
			{"without twice", without(a, without(a, b)), both(a, b)},
			{"both parts", either(both(a, b), without(a, b)), a},
			{"without itself", without(a, a), nil},
			{"all parts", either(either(without(a, b), without(b, a)), both(a, b)), either(a, b)},
			{"absorbed", both(a, either(a, b)), either(a, both(a, b))},
		} {
			if !slices.Equal(law.x, law.y) {
				t.Errorf("%s: %v and %v", law.what, law.x, law.y)
			}
		}
		if total(either(a, b))+total(both(a, b)) != total(a)+total(b) || total(without(a, b)) != total(a)-total(both(a, b)) {
			t.Errorf("the totals of %v and %v do not agree", a, b)
		}
	}
}
