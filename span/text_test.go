package span_test

// P1.2 (texts).

import (
	"math/big"
	"math/rand/v2"
	"regexp"
	"strings"
	"testing"

	"ullage/api"
	"ullage/span"
)

// mostText is the text of the greatest number.
const mostText = "2147483647.99999999976716935634613037109375"

func TestText(t *testing.T) {
	for _, c := range []struct {
		n    api.Num
		want string
	}{
		{0, "0"},
		{api.One, "1"},
		{-api.One, "-1"},
		{-api.One / 4, "-0.25"},
		{api.One / 2, "0.5"},
		{10 * api.One, "10"},
		{-1200 * api.One, "-1200"},
		{5*api.One + api.One/2, "5.5"},
		{100*api.One + api.One/16, "100.0625"},
		{1, "0.00000000023283064365386962890625"},
		{-1, "-0.00000000023283064365386962890625"},
		{api.One - 1, "0.99999999976716935634613037109375"},
		{-api.One - 1, "-1.00000000023283064365386962890625"},
		{api.MostNum, mostText},
		{-api.MostNum, "-" + mostText},
		{-api.MostNum + api.One - 1, "-2147483647"},
		{none, ""},
	} {
		if got := span.Text(c.n); got != c.want {
			t.Errorf("Text(%d) is %q, want %q", c.n, got, c.want)
		}
	}
}

func TestTextIsExactAndShort(t *testing.T) {
	r := random()
	numbers := edges()
	for range 5000 {
		numbers = append(numbers, randomNum(r))
	}
	for _, n := range numbers {
		want := exact(n).FloatString(32)
		want = strings.TrimSuffix(strings.TrimRight(want, "0"), ".")
		if got := span.Text(n); got != want {
			t.Errorf("Text(%d) is %q, want %q", n, got, want)
		}
	}
}

func TestReadText(t *testing.T) {
	r := random()
	numbers := edges()
	for range 5000 {
		numbers = append(numbers, randomNum(r))
	}
	for _, n := range numbers {
		a, e := span.Read(span.Text(n))
		is(t, "Read of the Text", a, e, raw(n, n), api.OK)
	}
}

func TestRead(t *testing.T) {
	tenth := raw(429496729, 429496730)
	for _, c := range []struct {
		s    string
		want api.Span
	}{
		{"0", ints(0, 0)},
		{"0.0", ints(0, 0)},
		{"0.000", ints(0, 0)},
		{"7", ints(7, 7)},
		{"-7", ints(-7, -7)},
		{"10", ints(10, 10)},
		{"1.0", ints(1, 1)},
		{"-1.00", ints(-1, -1)},
		{"0.5", raw(api.One/2, api.One/2)},
		{"-0.5", raw(-api.One/2, -api.One/2)},
		{"0.1", tenth},
		{"0.10", tenth},
		{"-0.1", raw(-429496730, -429496729)},
		{"-10.0", ints(-10, -10)},
		{"0.00000000023283064365386962890625", raw(1, 1)},
		{"0.00000000023283064365386962890624", raw(0, 1)},
		{"0.00000000023283064365386962890626", raw(1, 2)},
		{"-0.0000000001", raw(-1, 0)},
		{"0." + strings.Repeat("0", 77) + "1", raw(0, 1)},
		{"-0." + strings.Repeat("0", 76) + "1", raw(-1, 0)},
		{"0." + strings.Repeat("9", 78), raw(api.One-1, api.One)},
		{"-0." + strings.Repeat("9", 77), raw(-api.One, -api.One+1)},
		{"2147483647", ints(1<<31-1, 1<<31-1)},
		{"-2147483647", ints(-1<<31+1, -1<<31+1)},
		{mostText, raw(api.MostNum, api.MostNum)},
		{mostText + "0", raw(api.MostNum, api.MostNum)},
		{"-" + mostText, raw(-api.MostNum, -api.MostNum)},
		{strings.TrimSuffix(mostText, "5") + "4", raw(api.MostNum-1, api.MostNum)},
		{"-" + strings.TrimSuffix(mostText, "5") + "4", raw(-api.MostNum, -api.MostNum+1)},
	} {
		a, e := span.Read(c.s)
		is(t, "Read of "+c.s, a, e, c.want, api.OK)
	}
}

func TestReadOutOfRange(t *testing.T) {
	for _, s := range []string{
		"2147483648", "-2147483648", "2147483648.0", "-2147483648.5", "2147483649", "21474836470", "10000000000", mostText + "1", "-" + mostText + "1",
		"2147483647.9999999999", "-2147483647.9999999999", "4294967296", "4294967297", "18446744073709551616", "18446744073709551617", "-18446744073709551617",
		"9223372036854775808", "79228162514264337593543950336", strings.Repeat("9", 80), "-" + strings.Repeat("9", 79), "1" + strings.Repeat("0", 79), "1" + strings.Repeat("0", 70) + ".5",
	} {
		a, e := span.Read(s)
		is(t, "Read of "+s, a, e, api.Span{}, api.ErrRange)
	}
}

func TestReadLength(t *testing.T) {
	for _, s := range []string{strings.Repeat("1", 81), strings.Repeat("x", 81), "0." + strings.Repeat("0", 79), strings.Repeat("-", 100000), strings.Repeat("é", 41)} {
		a, e := span.Read(s)
		is(t, "Read of more than 80 bytes", a, e, api.Span{}, api.ErrLong)
	}
	for _, s := range []string{strings.Repeat("x", 80), strings.Repeat("9", 79) + "x", strings.Repeat("9", 79) + ".", "0" + strings.Repeat("9", 79), "-0." + strings.Repeat("0", 77), strings.Repeat("é", 40)} {
		a, e := span.Read(s)
		is(t, "Read of 80 bytes that are no number", a, e, api.Span{}, api.ErrForm)
	}
	a, e := span.Read("1." + strings.Repeat("0", 77) + "5")
	is(t, "Read of 80 bytes", a, e, raw(api.One, api.One+1), api.OK)
}

// TestReadForm reads each text of some bytes up to a length.
func TestReadForm(t *testing.T) {
	form := regexp.MustCompile(`^-?(0|[1-9][0-9]*)([.][0-9]+)?$`)
	least := regexp.MustCompile(`^[^-]|[1-9]`)
	var read func(s string, left int)
	read = func(s string, left int) {
		a, e := span.Read(s)
		want, f := api.Span{}, api.ErrForm
		if form.MatchString(s) && least.MatchString(s) {
			x, _ := new(big.Rat).SetString(s)
			want, f = rounded(x)
		}
		is(t, "Read of "+s, a, e, want, f)
		if left > 0 {
			for _, c := range []string{"-", "0", "1", "9", ".", "x"} {
				read(s+c, left-1)
			}
		}
	}
	read("", 6)
	for _, s := range []string{"+1", " 1", "1 ", "1e3", "0x1", "1,5", "1_0", "\x001", "1\n", "٣", "1.٣", "Inf", "NaN", "1/2", "- 1", "--1", "1.5.", "/", ":", "1:", "1.5/", "-.5", "-", "."} {
		a, e := span.Read(s)
		is(t, "Read of "+s, a, e, api.Span{}, api.ErrForm)
	}
}

func TestReadIsRoundedOut(t *testing.T) {
	r := random()
	for range 20000 {
		s := randomDecimal(r)
		x, _ := new(big.Rat).SetString(s)
		want, f := rounded(x)
		a, e := span.Read(s)
		is(t, "Read of "+s, a, e, want, f)
	}
}

// randomDecimal returns the text of a number that is not 0, at most 80 bytes.
func randomDecimal(r *rand.Rand) string {
	s := []byte{'1' + byte(r.IntN(9))}
	if r.IntN(2) == 0 {
		s = append([]byte{'-'}, s...)
	}
	for range r.IntN(11) {
		s = append(s, '0'+byte(r.IntN(10)))
	}
	if r.IntN(5) > 0 {
		s = append(s, '.', '0'+byte(r.IntN(10)))
		for range r.IntN(66) {
			s = append(s, '0'+byte(r.IntN(10)))
		}
	}
	return string(s)
}
