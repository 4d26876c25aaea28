package ascent_test

// P4.4 (windows), P4.6 (meetings).

import (
	"math"
	"math/big"
	"math/rand/v2"
	"testing"

	"ullage/api"
	"ullage/ascent"
)

// window returns a window.
func window(period, from, length int) api.Window {
	return api.Window{Period: period, From: from, Len: length}
}

// slots returns slots, each given by its From and its To.
func slots(ends ...int) []api.Slot {
	var l []api.Slot
	for i := 0; i < len(ends); i += 2 {
		l = append(l, api.Slot{From: ends[i], To: ends[i+1]})
	}
	return l
}

// badWindows returns windows that are not valid, for one reason each.
func badWindows() []api.Window {
	return []api.Window{
		window(0, 0, 0), window(-1, 0, 0), window(-10, 3, -20), window(math.MinInt, 0, 0), window(api.MaxPeriod+1, 0, 1), window(math.MaxInt, 0, 1),
		window(10, api.MaxPeriod+1, 2), window(10, -api.MaxPeriod-1, 2), window(10, math.MinInt, 2), window(10, math.MaxInt, 2),
		window(10, 3, -1), window(10, 3, 11), window(10, 3, math.MinInt), window(10, 3, math.MaxInt), window(1, 0, 2),
	}
}

// goodWindows returns windows that are valid, at the edges.
func goodWindows() []api.Window {
	var l []api.Window
	for _, period := range []int{1, 2, 10, api.MaxPeriod - 1, api.MaxPeriod} {
		for _, from := range []int{-api.MaxPeriod, -api.MaxPeriod + 1, -13, -1, 0, 3, api.MaxPeriod - 1, api.MaxPeriod} {
			for _, length := range []int{0, 1, period / 2, period - 1, period} {
				l = append(l, window(period, from, length))
			}
		}
	}
	return l
}

// badInstants are times beyond the range of times.
var badInstants = []int{api.MaxInstant + 1, -api.MaxInstant - 1, math.MaxInt, math.MinInt}

// isIn reports whether a valid window contains a time, in integers of any size.
func isIn(w api.Window, t int) bool {
	d := new(big.Int).Sub(big.NewInt(int64(t)), big.NewInt(int64(w.From)))
	// Mod of package big is from 0 on, if the divisor is above 0.
	return d.Mod(d, big.NewInt(int64(w.Period))).Cmp(big.NewInt(int64(w.Len))) < 0
}

func TestContains(t *testing.T) {
	places := []int{math.MinInt, math.MinInt + 1, -api.MaxInstant - 1, -api.MaxInstant, -1 << 32, -11, -10, -8, -7, -6, -2, -1, 0, 1, 2, 3, 4, 5, 12, 13, 14, 15, 1 << 31, api.MaxInstant, api.MaxInstant + 1, math.MaxInt - 1, math.MaxInt}
	for _, w := range goodWindows() {
		for _, x := range append(places, w.From, w.From-1, w.From+w.Len, w.From+w.Len-1, w.From+w.Period, w.From-w.Period) {
			if got := ascent.Contains(w, x); got != isIn(w, x) {
				t.Errorf("Contains(%v, %d) is %v", w, x, got)
			}
		}
	}
	for _, w := range badWindows() {
		for _, x := range append(places, w.From) {
			if ascent.Contains(w, x) {
				t.Errorf("Contains(%v, %d)", w, x)
			}
		}
	}
}

func TestSlots(t *testing.T) {
	most := api.MaxInstant
	for _, c := range []struct {
		w        api.Window
		from, to int
		want     []api.Slot
		e        api.Errno
	}{
		{window(10, 3, 2), 0, 25, slots(3, 5, 13, 15, 23, 25), api.OK},
		{window(10, 3, 2), 0, 23, slots(3, 5, 13, 15), api.OK},
		{window(10, 3, 2), 0, 24, slots(3, 5, 13, 15, 23, 24), api.OK},
		{window(10, 3, 2), 3, 13, slots(3, 5), api.OK},
		{window(10, 3, 2), 4, 14, slots(4, 5, 13, 14), api.OK},
		{window(10, 3, 2), 5, 13, nil, api.OK},
		{window(10, 3, 2), 5, 14, slots(13, 14), api.OK},
		{window(10, 3, 2), 4, 4, nil, api.OK},
		{window(10, 3, 2), 4, 5, slots(4, 5), api.OK},
		{window(10, 3, 2), -20, 0, slots(-17, -15, -7, -5), api.OK},
		{window(10, 23, 2), -20, 0, slots(-17, -15, -7, -5), api.OK},
		{window(10, -107, 2), -20, 0, slots(-17, -15, -7, -5), api.OK},
		{window(10, 8, 5), 0, 20, slots(0, 3, 8, 13, 18, 20), api.OK},
		{window(10, 8, 9), 0, 20, slots(0, 7, 8, 17, 18, 20), api.OK},
		{window(10, 3, 10), 0, 25, slots(0, 25), api.OK},
		{window(10, 3, 10), 25, 25, nil, api.OK},
		{window(10, 3, 0), 0, 25, nil, api.OK},
		{window(1, 0, 1), -most, most, slots(-most, most), api.OK},
		{window(1, 0, 0), -most, most, nil, api.OK},
		{window(api.MaxPeriod, 5, api.MaxPeriod), -most, most, slots(-most, most), api.OK},
		{window(api.MaxPeriod, 5, 1), -most, most, nil, api.ErrLong},
		{window(2, 0, 1), -most, most, nil, api.ErrLong},
		{window(api.MaxPeriod, 0, 1), most - 1, most, nil, api.OK},
		{window(api.MaxPeriod, -1, 1), most - 1, most, slots(most-1, most), api.OK},
		{window(api.MaxPeriod, -5, 10), most - 3, most, slots(most-3, most), api.OK},
		{window(api.MaxPeriod, -5, 10), most, most, nil, api.OK},
		{window(api.MaxPeriod, -5, 10), -most, -most + 3, slots(-most, -most+3), api.OK},
		{window(api.MaxPeriod, -5, 10), -most, -most + 9, slots(-most, -most+5), api.OK},
		{window(api.MaxPeriod, api.MaxPeriod, 1), -most, -most, nil, api.OK},
		{window(10, 3, 2), 6, 5, nil, api.ErrArg},
		{window(10, 3, 10), most, -most, nil, api.ErrArg},
		{window(10, 3, 0), 1, 0, nil, api.ErrArg},
	} {
		l, e := ascent.Slots(c.w, c.from, c.to)
		are(t, "Slots", l, e, c.want, c.e)
	}
	for _, w := range goodWindows() {
		for _, bad := range badInstants {
			for _, c := range [][2]int{{bad, bad}, {0, bad}, {bad, 0}} {
				l, e := ascent.Slots(w, c[0], c[1])
				are(t, "Slots, beyond all times", l, e, nil, api.ErrArg)
			}
		}
	}
	for _, w := range badWindows() {
		for _, c := range [][2]int{{0, 25}, {3, 3}, {-most, most}} {
			l, e := ascent.Slots(w, c[0], c[1])
			are(t, "Slots of a window that is not valid", l, e, nil, api.ErrArg)
		}
	}
}

// TestMostSlots has as many slots as there may be, and one more.
func TestMostSlots(t *testing.T) {
	w := window(2, 1, 1)
	var all []api.Slot
	for i := range api.MaxSlots {
		all = append(all, api.Slot{From: 2*i + 1, To: 2*i + 2})
	}
	for _, c := range []struct {
		from, to int
		e        api.Errno
	}{
		{0, 2 * api.MaxSlots, api.OK},
		{1, 2 * api.MaxSlots, api.OK},
		{0, 2*api.MaxSlots + 1, api.OK},
		{0, 2*api.MaxSlots + 2, api.ErrLong},
		{-1, 2*api.MaxSlots + 1, api.ErrLong},
		{-1, 2*api.MaxSlots + 2, api.ErrLong},
	} {
		want := all
		if c.e != api.OK {
			want = nil
		}
		l, e := ascent.Slots(w, c.from, c.to)
		are(t, "Slots, as many as there may be", l, e, want, c.e)
	}
	// Parts of slots at both ends count, too.
	w = window(10, 0, 5)
	l, e := ascent.Slots(w, 4, 10*api.MaxSlots-9)
	is(t, "Slots, parts at both ends", len(l), e, api.MaxSlots, api.OK)
	l, e = ascent.Slots(w, 4, 10*api.MaxSlots+1)
	are(t, "Slots, parts at both ends, one more", l, e, nil, api.ErrLong)
	l, e = ascent.Slots(w, 5, 10*api.MaxSlots+1)
	is(t, "Slots, a part at one end", len(l), e, api.MaxSlots, api.OK)
}

// setOf returns the set of the times from one to below another one that something holds for.
func setOf(from, to int, holds func(t int) bool) []api.Slot {
	var l []api.Slot
	for x := from; x < to; x++ {
		switch last := len(l) - 1; {
		case !holds(x):
		case last >= 0 && l[last].To == x:
			l[last].To++
		default:
			l = append(l, api.Slot{From: x, To: x + 1})
		}
	}
	return l
}

// TestSlotsHaveAllTimes goes through all times of windows of short periods.
func TestSlotsHaveAllTimes(t *testing.T) {
	for period := 1; period <= 7; period++ {
		for from := -9; from <= 9; from++ {
			for length := 0; length <= period; length++ {
				w := window(period, from, length)
				for _, c := range [][2]int{{-11, 13}, {-3, 4}, {0, 1}, {5, 6}, {2, 17}} {
					want := setOf(c[0], c[1], func(x int) bool { return isIn(w, x) })
					l, e := ascent.Slots(w, c[0], c[1])
					are(t, "Slots of a short period", l, e, want, api.OK)
				}
			}
		}
	}
}

func TestMeetings(t *testing.T) {
	long, longer := api.MaxPeriod-1, api.MaxPeriod
	for _, c := range []struct {
		a, b           api.Window
		often, t, next int
	}{
		{window(4, 0, 1), window(6, 2, 1), 1, 0, 8},
		{window(4, 0, 1), window(6, 2, 1), 1, 9, 20},
		{window(4, 0, 1), window(6, 2, 1), 1, 8, 8},
		{window(4, 0, 1), window(6, 2, 1), 1, -4, -4},
		{window(4, 0, 1), window(6, 2, 1), 1, -3, 8},
		{window(4, 0, 1), window(6, 2, 3), 2, 0, 4},
		{window(4, 0, 3), window(6, 2, 3), 5, 0, 2},
		{window(10, 0, 10), window(10, 7, 2), 2, 0, 7},
		{window(10, 0, 10), window(10, 7, 2), 2, 8, 8},
		{window(10, 0, 10), window(10, 7, 2), 2, 9, 17},
		{window(10, 0, 10), window(6, 7, 6), 30, 9, 9},
		{window(1, 0, 1), window(1, 1, 1), 1, -5, -5},
		{window(10, 8, 4), window(10, 0, 9), 3, 9, 10},
		{window(10, 8, 4), window(10, 1, 9), 3, 0, 1},
		{window(long, 0, 1), window(longer, 0, 1), 1, 1, long * longer},
		{window(long, 0, 1), window(longer, 0, 1), 1, 0, 0},
		{window(longer, 0, 1), window(long, 5, 1), 1, 1, 5 * longer},
		{window(longer, 0, longer), window(long, 5, long), long * longer, 7, 7},
		{window(longer, 0, longer), window(long, 0, 1), longer, 1, long},
		{window(longer, 0, longer-1), window(long, 0, long-1), (long - 1) * (longer - 1), -1, 0},
		{window(longer, 0, 1), window(longer, 3, longer-2), 1, 1, longer},
		{window(long, api.MaxPeriod, 1), window(longer, -api.MaxPeriod, 1), 1, api.MaxInstant, api.MaxInstant},
		{window(long, 0, 1), window(longer, 0, 1), 1, api.MaxInstant, 2 * long * longer},
		{window(long, 0, 1), window(longer, 0, 1), 1, -api.MaxInstant, -long * longer},
		{window(longer, 0, 1), window(longer, 0, 1), 1, api.MaxInstant, api.MaxInstant},
		{window(longer, -1, 1), window(longer, -1, 1), 1, api.MaxInstant, api.MaxInstant + longer - 1},
		{window(longer, 0, 1), window(longer, 0, 1), 1, -api.MaxInstant + 1, -api.MaxInstant + longer},
	} {
		for _, w := range [][2]api.Window{{c.a, c.b}, {c.b, c.a}} {
			n, e := ascent.Often(w[0], w[1])
			is(t, "Often", n, e, c.often, api.OK)
			x, e := ascent.Next(w[0], w[1], c.t)
			is(t, "Next", x, e, c.next, api.OK)
		}
	}
}

func TestNoMeetings(t *testing.T) {
	for _, c := range [][2]api.Window{
		{window(4, 0, 1), window(6, 1, 1)},
		{window(4, 0, 2), window(8, 2, 2)},
		{window(4, 0, 0), window(6, 0, 6)},
		{window(1, 0, 0), window(1, 0, 1)},
		{window(5, 0, 0), window(7, 0, 0)},
		{window(10, 0, 5), window(10, 5, 5)},
		{window(10, 8, 4), window(10, 2, 6)},
		{window(10, 0, 5), window(20, 15, 5)},
		{window(api.MaxPeriod, 0, 1<<29), window(api.MaxPeriod, 1<<29, 1<<29)},
		{window(api.MaxPeriod, 0, 1), window(api.MaxPeriod-2, 1, 1)},
	} {
		for _, w := range [][2]api.Window{c, {c[1], c[0]}} {
			n, e := ascent.Often(w[0], w[1])
			is(t, "Often, never", n, e, 0, api.OK)
			for _, x := range []int{-api.MaxInstant, -1, 0, 1, 5, api.MaxInstant} {
				n, e = ascent.Next(w[0], w[1], x)
				is(t, "Next, never", n, e, 0, api.ErrNone)
			}
		}
	}
}

func TestMeetingsOfWhatIsNotValid(t *testing.T) {
	for _, good := range []api.Window{window(4, 0, 1), window(1, 0, 1), window(7, 0, 0)} {
		for _, bad := range badWindows() {
			for _, w := range [][2]api.Window{{good, bad}, {bad, good}, {bad, bad}} {
				n, e := ascent.Often(w[0], w[1])
				is(t, "Often of a window that is not valid", n, e, 0, api.ErrArg)
				for _, x := range append(badInstants, 0) {
					n, e = ascent.Next(w[0], w[1], x)
					is(t, "Next of a window that is not valid", n, e, 0, api.ErrArg)
				}
			}
		}
		for _, other := range []api.Window{window(4, 0, 1), window(4, 1, 1), window(9, 0, 0)} {
			for _, x := range badInstants {
				n, e := ascent.Next(good, other, x)
				is(t, "Next, beyond all times", n, e, 0, api.ErrArg)
			}
		}
	}
}

// common returns the greatest common divisor.
func common(a, b int) int {
	return int(new(big.Int).GCD(nil, nil, big.NewInt(int64(a)), big.NewInt(int64(b))).Int64())
}

// TestMeetingsOfShortPeriods goes through all times of a common period.
func TestMeetingsOfShortPeriods(t *testing.T) {
	r := random()
	for range 6000 {
		a, b := randomWindow(r, 1+r.IntN(16)), randomWindow(r, 1+r.IntN(16))
		both := a.Period / common(a.Period, b.Period) * b.Period
		from := r.IntN(4*both) - 2*both
		count, first := 0, 0
		for x := from; x < from+both; x++ {
			if isIn(a, x) && isIn(b, x) {
				if count == 0 {
					first = x
				}
				count++
			}
		}
		n, e := ascent.Often(a, b)
		is(t, "Often of short periods", n, e, count, api.OK)
		x, e := ascent.Next(a, b, from)
		want := api.OK
		if count == 0 {
			want = api.ErrNone
		}
		is(t, "Next of short periods", x, e, first, want)
	}
}

// randomWindow returns a window of a period.
func randomWindow(r *rand.Rand, period int) api.Window {
	return window(period, r.IntN(80)-40, r.IntN(period+1))
}

// first returns the first time from t on that is x modulo a, and y modulo b, if there is one.
func first(t, x, a, y, b int) (int, bool) {
	g := common(a, b)
	if (x-y)%g != 0 {
		return 0, false
	}
	big64 := func(n int) *big.Int { return big.NewInt(int64(n)) }
	// The time is x + k a, with k a/g = (y - x)/g modulo b/g.
	k := big64((y - x) / g)
	if b/g > 1 {
		k.Mul(k, new(big.Int).ModInverse(big64(a/g), big64(b/g)))
	}
	time := k.Add(k.Mul(k, big64(a)), big64(x))
	both := big64(a / g * b)
	time.Mod(time.Sub(time, big64(t)), both)
	return int(time.Add(time, big64(t)).Int64()), true
}

// TestMeetingsOfLongPeriods holds windows of few times in long periods against all pairs of these, and the windows of all other times against them.
func TestMeetingsOfLongPeriods(t *testing.T) {
	r := random()
	for range 1500 {
		factor := 1 + r.IntN(60)
		period := func() int { return factor * (1 + r.IntN(api.MaxPeriod/factor)>>r.IntN(8)) }
		few := func() api.Window {
			p := period()
			return window(p, r.IntN(2*api.MaxPeriod)-api.MaxPeriod, min(p, r.IntN(12)))
		}
		a, b := few(), few()
		from := r.IntN(2*api.MaxInstant) - api.MaxInstant
		count, next := 0, math.MaxInt
		for i := range a.Len {
			for j := range b.Len {
				if x, there := first(from, a.From+i, a.Period, b.From+j, b.Period); there {
					count++
					next = min(next, x)
				}
			}
		}
		n, e := ascent.Often(a, b)
		is(t, "Often of long periods", n, e, count, api.OK)
		x, e := ascent.Next(a, b, from)
		if count > 0 {
			is(t, "Next of long periods", x, e, next, api.OK)
		} else {
			is(t, "Next of long periods, never", x, e, 0, api.ErrNone)
		}
		others(t, a, b, from, count)
	}
}

// rest returns the window of all times that are not in another one.
func rest(w api.Window) api.Window {
	return window(w.Period, (w.From+w.Len)%w.Period, w.Period-w.Len)
}

// others checks the windows of all times that are not in windows of few times.
func others(t *testing.T, a, b api.Window, from, count int) {
	t.Helper()
	g := common(a.Period, b.Period)
	inA, inB := a.Len*(b.Period/g), b.Len*(a.Period/g)
	all := a.Period / g * b.Period
	for _, c := range []struct {
		a, b api.Window
		want int
	}{
		{rest(a), b, inB - count},
		{a, rest(b), inA - count},
		{rest(a), rest(b), all - inA - inB + count},
	} {
		n, e := ascent.Often(c.a, c.b)
		is(t, "Often of other times", n, e, c.want, api.OK)
	}
	next := from
	for next < from+30 && !(isIn(rest(a), next) && isIn(rest(b), next)) {
		next++
	}
	if next < from+30 {
		x, e := ascent.Next(rest(a), rest(b), from)
		is(t, "Next of other times", x, e, next, api.OK)
	}
}

// TestMeetingsSlotBySlot goes from slot to slot of windows of middling periods, up to where they meet.
func TestMeetingsSlotBySlot(t *testing.T) {
	r := random()
	for range 1500 {
		factor := 1 + r.IntN(9)
		period := func() int { return factor * (1 + r.IntN(3000)) }
		a, b := randomWindow(r, period()), randomWindow(r, period())
		if r.IntN(2) == 0 {
			a.Len, b.Len = min(a.Len, 1+r.IntN(30)), min(b.Len, 1+r.IntN(30))
		}
		from := r.IntN(2000000) - 1000000
		both := a.Period / common(a.Period, b.Period) * b.Period
		want, there := slotBySlot(a, b, from, from+both)
		x, e := ascent.Next(a, b, from)
		if there {
			is(t, "Next of middling periods", x, e, want, api.OK)
		} else {
			is(t, "Next of middling periods, never", x, e, 0, api.ErrNone)
		}
	}
}

// slotBySlot returns the first time from one on, and below another one, that is in two windows.
func slotBySlot(a, b api.Window, from, to int) (first int, there bool) {
	before := func(w api.Window, t int) int { return ((t-w.From)%w.Period + w.Period) % w.Period }
	for begin := from - before(a, from); begin < to; begin += a.Period {
		// Of the slot from begin on the first time in b is its first one, or that with which a period of b begins.
		x := max(begin, from)
		if late := before(b, x); late >= b.Len {
			x += b.Period - late
		}
		if b.Len > 0 && x < begin+a.Len && x < to {
			return x, true
		}
	}
	return 0, false
}
