package vehicle_test

// P2.4 (Read), and the tokens of the language.

import (
	"math/big"
	"math/rand/v2"
	"regexp"
	"slices"
	"strings"
	"testing"

	"ullage/api"
	"ullage/vehicle"
)

// reserved returns the words that are no names, but for the units.
func reserved() []string {
	return strings.Fields("vehicle let stage engine in drag limits payload dry prop count thrust flow least start stop axial bending")
}

func TestRead(t *testing.T) {
	for _, c := range [][2]string{
		{"0", "0"}, {"007", "7"}, {"0.50", "1/2"}, {"12.5", "25/2"}, {"999999999999999999", "999999999999999999"},
		{"0.00000000000000001", "1/100000000000000000"}, {"1.00000000000000000", "1"}, {"000000000000000001", "1"},
		{"1.5 km / ms", "1500 km s^-1"}, {"2 t + 500 kg", "5/2 t"}, {"0 km", "0 km"}, {"km", "1 km"}, {"2km", "2 km"}, {" \n2 \n\n km ", "2 km"},
		// All operators associate to the left; a unit is bound the closest.
		{"1 - 2 - 3", "-4"}, {"1 - (2 - 3)", "2"}, {"16 / 4 / 2", "2"}, {"16 / (4 / 2)", "8"}, {"16 / 4 * 2", "8"}, {"1 + 2 * 3", "7"}, {"(1 + 2) * 3", "9"}, {"2 * 3 + 1", "7"},
		{"1 / 2 km", "1/2 km^-1"}, {"1 / 2 * km", "1/2 km"}, {"6 km / 2 km", "3"}, {"1 t * km / s / s", "1 km s^-2 t"},
		{"-2", "-2"}, {"- -2", "2"}, {"--2", "2"}, {"---2", "-2"}, {"2--3", "5"}, {"2 + -3", "-1"}, {"2*-3", "-6"}, {"2 / -3", "-2/3"}, {"-2 km", "-2 km"}, {"-km * -km", "1 km^2"}, {"-(3 kN)/4", "-3/4000 km s^-2 t"},
		{"((((7))))", "7"}, {"(2)*(3)", "6"}, {"2 min + 3 s", "123 s"}, {"1 MN / (1 m * 1 m)", "1000000 km^-1 s^-2 t"}, {"35 kPa", "35000 km^-1 s^-2 t"},
		// A word ends before a - that nothing of it follows.
		{"2 km- 1 km", "1 km"}, {"km-(1 m)", "999/1000 km"},
	} {
		q, at, e := vehicle.Read(c[0])
		if got := vehicle.Show(q); got != c[1] || at != 0 || e != api.OK {
			t.Errorf("Read of %q: %q, at %d, error %d; want %q", c[0], got, at, e, c[1])
		}
	}
	for _, u := range vehicle.Units() {
		for _, s := range []string{u.Name, "1" + u.Name, "1 * " + u.Name, "(" + u.Name + ")"} {
			if q, at, e := vehicle.Read(s); q != u.Is || at != 0 || e != api.OK {
				t.Errorf("Read of %q: %v, at %d, error %d", s, q, at, e)
			}
		}
	}
}

// faultsOfQuantities returns texts with a ^ where the fault is.
func faultsOfQuantities() []struct {
	s string
	e api.Errno
} {
	long := strings.Repeat("a", 32)
	return []struct {
		s string
		e api.Errno
	}{
		// The end comes too early.
		{"^", api.ErrForm}, {"  \n^", api.ErrForm}, {"3 +^", api.ErrForm}, {"3 + ^", api.ErrForm}, {"3 km *\n^", api.ErrForm}, {"-^", api.ErrForm}, {"(^", api.ErrForm}, {"(3^", api.ErrForm}, {"((3)^", api.ErrForm},
		// Tokens that cannot stand where they are.
		{"1 km ^2", api.ErrForm}, {"1 ^2", api.ErrForm}, {"km ^s", api.ErrForm}, {"1 km ^s", api.ErrForm}, {"km ^2", api.ErrForm}, {"3 ^x", api.ErrForm}, {"3 km ^x", api.ErrForm}, {"(3) ^km", api.ErrForm},
		{"^)", api.ErrForm}, {"(^)", api.ErrForm}, {"3 ^)", api.ErrForm}, {"3 ^(2)", api.ErrForm}, {"(3) ^(2)", api.ErrForm}, {"3 + ^+ 3", api.ErrForm}, {"^+3", api.ErrForm}, {"^* 3", api.ErrForm}, {"3 * ^/ 3", api.ErrForm},
		{"3 ^+- 2", api.ErrForm}, {"3 ^+-2", api.ErrForm}, {"3 ^.. 2", api.ErrForm}, {"3^..2", api.ErrForm}, {"^+-3", api.ErrForm}, {"^;", api.ErrForm}, {"3 ^;", api.ErrForm}, {"3 ^: 2", api.ErrForm}, {"3 ^= 2", api.ErrForm}, {"^{", api.ErrForm}, {"3 ^}", api.ErrForm},
		{"^stage", api.ErrForm}, {"3 ^stage", api.ErrForm}, {"3 * ^payload", api.ErrForm},
		// What is no token.
		{"^#", api.ErrForm}, {"1 ^# 2", api.ErrForm}, {"1^\t", api.ErrForm}, {"1 ^\r\n", api.ErrForm}, {"^.5", api.ErrForm}, {"5^.", api.ErrForm}, {"5^. 5", api.ErrForm}, {"1.5^.5", api.ErrForm}, {"1 ^_", api.ErrForm}, {"1 ^\u00e4", api.ErrForm}, {"^\x00", api.ErrForm}, {"1 ^\xff", api.ErrForm}, {"1 ^, 2", api.ErrForm}, {"1 ^!", api.ErrForm},
		{"^1234567890123456789", api.ErrRange}, {"^0000000000000000001", api.ErrRange}, {"^1.234567890123456789", api.ErrRange}, {"^0.000000000000000000", api.ErrRange}, {"2 * ^1234567890123456789", api.ErrRange}, {"1 ^1234567890123456789", api.ErrRange},
		{"^" + long + "a", api.ErrForm}, {"1 ^" + long + "a", api.ErrForm}, {"^" + long + "-a", api.ErrForm}, {"^" + long + "1", api.ErrForm},
		// Names, of which there are none. What is behind them is not looked at.
		{"^x", api.ErrNone}, {"^x + 3", api.ErrNone}, {"3 + ^x", api.ErrNone}, {"^x #", api.ErrNone}, {"^x x", api.ErrNone}, {"-^x", api.ErrNone}, {"(^x", api.ErrNone}, {"^KM", api.ErrNone}, {"^Km", api.ErrNone}, {"^kms", api.ErrNone}, {"^km1", api.ErrNone}, {"^km-s", api.ErrNone}, {"^x-", api.ErrNone}, {"^x--", api.ErrNone}, {"^a--b", api.ErrNone}, {"^Stage", api.ErrNone}, {"^stages", api.ErrNone},
		{"^" + long, api.ErrNone}, {"^" + long + "-", api.ErrNone}, {"2 km ^km-1", api.ErrForm}, {"2 ^km-1 km", api.ErrForm}, {"2 ^e5", api.ErrForm},
		// Operators that cannot be applied.
		{"2 t ^+ 3 s", api.ErrUnit}, {"2 t ^- 3", api.ErrUnit}, {"0 ^+ 0 km", api.ErrUnit}, {"1 ^/ 0", api.ErrArg}, {"1 ^/ (1 - 1)", api.ErrArg}, {"1 ^/ 0 km", api.ErrArg}, {"0 ^/ 0", api.ErrArg},
		{"999999999999999999 ^h", api.ErrRange}, {"0.00000000000000001 ^N", api.ErrRange}, {"-999999999999999999 ^h", api.ErrRange}, {"1 / 999999999999999999 ^h", api.ErrRange}, {"3000000000 ^* 3000000000", api.ErrRange}, {"1 / 3000000000 ^/ 3000000000", api.ErrRange},
		{"km*km*km*km*km*km*km*km*km^*km", api.ErrRange}, {"1/km/km/km/km/km/km/km/km/km^/km", api.ErrRange}, {"999999999999999999 ^* 5", api.ErrRange}, {"-999999999999999999 ^* 5", api.ErrRange}, {"999999999999999999 * 4 ^+ 999999999999999999", api.ErrRange}, {"-999999999999999999 * 4 ^- 999999999999999999", api.ErrRange},
		// The first one that is complete: what stands behind it may be worse, or the operator before it.
		{"2 t ^+ 3 s + 4 km", api.ErrUnit}, {"1 km + 2 t * 3 ^/ 0", api.ErrArg}, {"2 t + 3 s ^/ 0", api.ErrArg}, {"2 t ^+ 3 s * 4", api.ErrUnit}, {"2 t + (3 s ^+ 1)", api.ErrUnit}, {"(2 t ^+ 3 s", api.ErrUnit}, {"2 t ^+ (3 s)", api.ErrUnit}, {"1 + 2 ^/ 0 + 3 t", api.ErrArg},
		// The token behind an operand: that it is none comes first, that it cannot stand there comes later.
		{"1 / 0 ^#", api.ErrForm}, {"1 / 0 ^1234567890123456789", api.ErrRange}, {"1 / 0^.", api.ErrForm}, {"1 ^/ 0 2", api.ErrArg}, {"1 ^/ 0 x", api.ErrArg}, {"1 ^/ 0 )", api.ErrArg}, {"1 ^/ 0 ..", api.ErrArg}, {"1 ^/ 0 stage", api.ErrArg}, {"1 ^/ 0 (", api.ErrArg},
		{"2 t + 3 s ^#", api.ErrForm}, {"2 t + 3 ^# s", api.ErrForm}, {"2 t ^+ 3 s x", api.ErrUnit}, {"2 t ^+ 3 s )", api.ErrUnit}, {"2 t ^+ 3 x", api.ErrUnit}, {"999999999999999999 h ^#", api.ErrForm}, {"999999999999999999 ^h x", api.ErrRange}, {"999999999999999999 ^h h", api.ErrRange}, {"1 / (0) ^#", api.ErrForm}, {"1 / (0 ^#", api.ErrForm}, {"1 / (0^", api.ErrForm}, {"1 ^/ (0) )", api.ErrArg},
		{"1 / ^#", api.ErrForm}, {"1 km + 1 / ^x", api.ErrNone}, {"1 km + 1 * ^)", api.ErrForm},
	}
}

func TestReadFaults(t *testing.T) {
	for _, c := range faultsOfQuantities() {
		s, want := marked(c.s)
		if q, at, e := vehicle.Read(s); at != want || e != c.e || q != (api.Quantity{}) {
			t.Errorf("Read of %q: %v, at %d, error %d; want %d, error %d", s, q, at, e, want, c.e)
		}
	}
	for _, word := range reserved() {
		if _, at, e := vehicle.Read("1 + " + word + " #"); at != 4 || e != api.ErrForm {
			t.Errorf("Read with the word %s: at %d, error %d", word, at, e)
		}
	}
}

// TestReadBytes checks all bytes, behind a number.
func TestReadBytes(t *testing.T) {
	for b := range 256 {
		_, at, e := vehicle.Read("1" + string([]byte{byte(b)}))
		wantAt, want := 1, api.ErrForm
		switch {
		case b == ' ' || b == '\n' || b == 's' || b == 'h' || b == 't' || b == 'm' || b == 'N' || '0' <= b && b <= '9':
			wantAt, want = 0, api.OK
		case strings.IndexByte("+-*/", byte(b)) >= 0:
			wantAt = 2
		}
		if at != wantAt || e != want {
			t.Errorf("Read of 1 and the byte %d: at %d, error %d; want %d, error %d", b, at, e, wantAt, want)
		}
	}
}

func TestReadLength(t *testing.T) {
	longest := strings.Repeat(" ", api.MaxText-1) + "7"
	if q, at, e := vehicle.Read(longest); q != plain(7, 1) || at != 0 || e != api.OK {
		t.Errorf("Read of a text of the greatest length: %v, at %d, error %d", q, at, e)
	}
	for _, s := range []string{longest + " ", " " + longest, strings.Repeat("#", api.MaxText+1), strings.Repeat("x", 1<<20)} {
		if q, at, e := vehicle.Read(s); q != (api.Quantity{}) || at != 0 || e != api.ErrLong {
			t.Errorf("Read of a text of %d bytes: %v, at %d, error %d", len(s), q, at, e)
		}
	}
	for _, c := range []struct {
		s  string
		at int
		e  api.Errno
	}{
		{strings.Repeat("(", api.MaxText), api.MaxText, api.ErrForm},
		{strings.Repeat("-", api.MaxText), api.MaxText, api.ErrForm},
		{strings.Repeat("-", api.MaxText-1) + "1", 0, api.OK},
		{strings.Repeat("(", api.MaxText/2-1) + "1" + strings.Repeat(")", api.MaxText/2-1), 0, api.OK},
		{strings.Repeat("1+", api.MaxText/2), api.MaxText, api.ErrForm},
		{strings.Repeat("x", api.MaxText), 0, api.ErrForm},
		{strings.Repeat("1", api.MaxText), 0, api.ErrRange},
		{"1 x" + strings.Repeat("-", api.MaxText-3), 2, api.ErrForm},
	} {
		if _, at, e := vehicle.Read(c.s); at != c.at || e != c.e {
			t.Errorf("Read of %q and so on: at %d, error %d; want %d, error %d", c.s[:4], at, e, c.at, c.e)
		}
	}
}

// What follows reads quantities in another way, with a stack of operators, and is held against Read.

// held is an operator that waits for its second operand, how close it binds, and where it is.
type held struct {
	text string
	rank int
	at   int
}

type oracle struct {
	text      string
	pos       int
	operands  []api.Quantity
	operators []held
}

var tokenForm = regexp.MustCompile(`^(?:[a-zA-Z](?:[a-zA-Z0-9-]*[a-zA-Z0-9])?|[0-9]+(?:\.[0-9]+)?|\+-|\.\.|[{};:=+*/()-])`)

// token returns the next token and where it begins.
func (o *oracle) token() (text string, at int, e api.Errno) {
	for o.pos < len(o.text) && strings.ContainsRune(" \n", rune(o.text[o.pos])) {
		o.pos++
	}
	text, at = tokenForm.FindString(o.text[o.pos:]), o.pos
	o.pos += len(text)
	switch {
	case text == "" && at < len(o.text):
		return "", at, api.ErrForm
	case text != "" && '0' <= text[0] && text[0] <= '9' && len(strings.ReplaceAll(text, ".", "")) > 18:
		return "", at, api.ErrRange
	case len(text) > 32 && !('0' <= text[0] && text[0] <= '9'):
		return "", at, api.ErrForm
	}
	return text, at, api.OK
}

// apply applies the operators that bind at least as close as that.
func (o *oracle) apply(rank int) (at int, e api.Errno) {
	for len(o.operators) > 0 {
		op := o.operators[len(o.operators)-1]
		if op.text == "(" || op.rank < rank {
			break
		}
		o.operators = o.operators[:len(o.operators)-1]
		last := len(o.operands) - 1
		if op.text == "negate" {
			o.operands[last].Num *= -1
			continue
		}
		of := wantProduct
		switch op.text {
		case "+":
			of = wantSum
		case "-":
			of = wantDifference
		case "/":
			of = wantQuotient
		}
		q, e := of(o.operands[last-1], o.operands[last])
		if e != api.OK {
			return op.at, e
		}
		o.operands = append(o.operands[:last-1], q)
	}
	return 0, api.OK
}

// operand takes a token that stands where an operand may begin, and reports whether that is one.
func (o *oracle) operand(text string, at int) (complete bool, e api.Errno) {
	i := slices.IndexFunc(vehicle.Units(), func(u api.Unit) bool { return u.Name == text })
	switch {
	case text == "-":
		o.operators = append(o.operators, held{"negate", 3, at})
	case text == "(":
		o.operators = append(o.operators, held{"(", 0, at})
	case i >= 0:
		o.operands = append(o.operands, vehicle.Units()[i].Is)
		return true, api.OK
	case text != "" && '0' <= text[0] && text[0] <= '9':
		x, _ := new(big.Rat).SetString(text)
		q, _ := ofRat(x, [3]int{})
		o.operands = append(o.operands, q)
		return true, api.OK
	case text != "" && !slices.Contains(reserved(), text) && regexp.MustCompile(`^[a-zA-Z]`).MatchString(text):
		return false, api.ErrNone
	default:
		return false, api.ErrForm
	}
	return false, api.OK
}

func (o *oracle) read() (q api.Quantity, at int, e api.Errno) {
	complete, number := false, false
	for {
		text, at, e := o.token()
		if e != api.OK {
			return api.Quantity{}, at, e
		}
		if !complete {
			number = regexp.MustCompile(`^[0-9]`).MatchString(text)
			if complete, e = o.operand(text, at); e != api.OK {
				return api.Quantity{}, at, e
			}
			continue
		}
		if i := slices.IndexFunc(vehicle.Units(), func(u api.Unit) bool { return u.Name == text }); number && i >= 0 {
			o.operators = append(o.operators, held{"*", 4, at})
			o.operands = append(o.operands, vehicle.Units()[i].Is)
			number = false
			continue
		}
		number = false
		rank := 1
		if text == "*" || text == "/" {
			rank = 2
		}
		if at, e := o.apply(rank); e != api.OK {
			return api.Quantity{}, at, e
		}
		switch open := len(o.operators) > 0 && o.operators[len(o.operators)-1].text == "("; {
		case text != "" && strings.Contains("+-*/", text) && text != "+-":
			o.operators = append(o.operators, held{text, rank, at})
			complete = false
		case text == ")" && open:
			o.operators = o.operators[:len(o.operators)-1]
		case text == "" && !open:
			return o.operands[0], 0, api.OK
		default:
			return api.Quantity{}, at, api.ErrForm
		}
	}
}

// randomText returns a text that is mostly a quantity.
func randomText(r *rand.Rand) string {
	pick := func(l string) string {
		words := strings.Fields(l)
		return words[r.IntN(len(words))]
	}
	var s strings.Builder
	depth := 0
	for range r.IntN(9) {
		for r.IntN(6) == 0 {
			s.WriteString("( ")
			depth++
		}
		s.WriteString(pick("1 2 3 0 10 1.5 7.25 km s t 2km 3s 4t - 1000000000 999999999999999999 0.00000000000000001 h N kPa") + strings.Repeat(" ", r.IntN(2)))
		if r.IntN(3) == 0 {
			s.WriteString(pick("km s t ms MN kN min m kg"))
		}
		for depth > 0 && r.IntN(3) == 0 {
			s.WriteString(" ) ")
			depth--
		}
		if r.IntN(25) == 0 {
			s.WriteString(" " + pick("x # +- .. ; : stage 1234567890123456789 ) ( 5 { } = a-b _ km") + " ")
		}
		s.WriteString(strings.Repeat(" ", r.IntN(2)) + pick("+ - * / + *") + strings.Repeat(" ", r.IntN(2)))
	}
	if r.IntN(10) > 0 {
		s.WriteString("1")
		s.WriteString(strings.Repeat(")", depth))
	}
	return s.String()
}

func TestReadAnotherWay(t *testing.T) {
	r := random()
	found := map[api.Errno]int{}
	for range 60000 {
		s := randomText(r)
		o := oracle{text: s}
		want, wantAt, f := o.read()
		found[f]++
		if q, at, e := vehicle.Read(s); q != want || at != wantAt || e != f {
			t.Fatalf("Read of %q: %v, at %d, error %d; want %v, at %d, error %d", s, q, at, e, want, wantAt, f)
		}
	}
	for _, e := range []api.Errno{api.OK, api.ErrArg, api.ErrRange, api.ErrForm, api.ErrNone, api.ErrUnit} {
		if found[e] < 50 {
			t.Errorf("the error %d was found %d times", e, found[e])
		}
	}
}
