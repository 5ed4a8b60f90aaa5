package unc_test

import (
	"math"
	"math/big"
	"math/rand"
	"strconv"
	"strings"
	"testing"

	"cubit/api"
	"cubit/rat"
	"cubit/unc"
)

// P4.3.
func TestSpread(t *testing.T) {
	twentieth := meas("5", "x", "1/10", "y", "1/5")
	for _, c := range []struct {
		m      api.Meas
		digits int
		want   string
		why    api.Errno
	}{
		{twentieth, 1, "1/5", api.OK}, {twentieth, 2, "11/50", api.OK}, {twentieth, 3, "28/125", api.OK},
		{meas("1"), 1, "0", api.OK}, {meas("1"), 60, "0", api.OK}, {meas("1"), 0, "", api.ErrArg}, {meas("1"), 61, "", api.ErrArg},
		{twentieth, 0, "", api.ErrArg}, {twentieth, 61, "", api.ErrArg}, {twentieth, -1, "", api.ErrArg}, {twentieth, math.MinInt, "", api.ErrArg}, {twentieth, math.MaxInt, "", api.ErrArg},
		{meas("0", "x", "3", "y", "4"), 1, "5", api.OK}, {meas("0", "x", "-3", "y", "4"), 60, "5", api.OK}, {meas("0", "x", "-7"), 2, "7", api.OK},
		// Half way: the even one; of 9..9 and 10..0 the latter.
		{meas("0", "x", "5/2"), 1, "2", api.OK}, {meas("0", "x", "7/2"), 1, "4", api.OK}, {meas("0", "x", "25"), 1, "20", api.OK}, {meas("0", "x", "-35"), 1, "40", api.OK}, {meas("0", "x", "1/40"), 1, "1/50", api.OK}, {meas("0", "x", "19/2"), 1, "10", api.OK}, {meas("0", "x", "199/2"), 2, "100", api.OK}, {meas("0", "x", "19/200"), 1, "1/10", api.OK}, {meas("0", "x", "15"), 1, "20", api.OK}, {meas("0", "x", "21/2"), 2, "10", api.OK}, {meas("0", "x", "23/2"), 2, "12", api.OK},
		// A little less, a little more than that.
		{meas("0", "x", "2500001/1000000"), 1, "3", api.OK}, {meas("0", "x", "3499999/1000000"), 1, "3", api.OK}, {meas("0", "x", "9499999/1000000"), 1, "9", api.OK}, {meas("0", "x", "9500001/1000000"), 1, "10", api.OK},
		{meas("0", "x", "1", "y", "1"), 20, "14142135623730950488/10000000000000000000", api.OK},
		{meas("0", "x", "1"), 1, "1", api.OK}, {meas("0", "x", "10"), 1, "10", api.OK}, {meas("0", "x", "1/10"), 1, "1/10", api.OK}, {meas("0", "x", "1/100"), 3, "1/100", api.OK},
		{meas("0", "x", "1/"+ten(599)), 60, "1/" + ten(599), api.OK}, {meas("0", "x", "1/"+nines(600)), 1, "", api.ErrLarge}, {meas("0", "x", ten(599)), 60, ten(599), api.OK}, {meas("0", "x", nines(600)), 60, "", api.ErrLarge}, {meas("0", "x", nines(60)+strings.Repeat("0", 540)), 60, nines(60) + strings.Repeat("0", 540), api.OK}, {many("s", 64), 3, "8", api.OK},
		{meas("0", "x", ten(400), "y", "1/"+ten(500)), 1, ten(400), api.OK}, // its Var is not right
	} {
		want := api.Rat{}
		if c.why == api.OK {
			want = lowest(t, c.want)
		}
		r, e := unc.Spread(c.m, c.digits)
		checkRat(t, "Spread "+strconv.Itoa(c.digits), r, e, want, c.why)
	}
}

func lowest(t *testing.T, s string) api.Rat {
	t.Helper()
	r, e, _ := rat.Parse(s)
	if e != api.OK {
		t.Fatalf("%s is no number", s)
	}
	return r
}

func tenth(e int) *big.Rat { return power(big.NewRat(10, 1), e) }

// cut: a rounded spread, above 0, as n times ten to the e, n with so many digits.
func cut(v *big.Rat, digits int) (*big.Int, int) {
	low := power(big.NewRat(10, 1), digits-1)
	e := 0
	for quo(v, tenth(e)).Cmp(low) < 0 {
		e--
	}
	for quo(v, tenth(e+1)).Cmp(low) >= 0 {
		e++
	}
	n := quo(v, tenth(e))
	if !n.IsInt() {
		return nil, 0
	}
	return n.Num(), e
}

// P4.3: no other one is nearer to the root.
func TestSpreadIsNearest(t *testing.T) {
	r := rand.New(rand.NewSource(61))
	for i := range 1500 {
		m := sample(r, 4, []int{1, 2, 5, 20}[i%4])
		digits := 1 + r.Intn(6)
		if i%10 == 0 {
			digits = 60
		}
		got, e := unc.Spread(m, digits)
		if e != api.OK {
			t.Fatalf("Spread(%v, %d): %d", m, digits, e)
		}
		v, _ := unc.Var(m)
		if len(m.Sources) == 0 {
			checkRat(t, "Spread", got, e, rat.Of(0), api.OK)
			continue
		}
		n, exp := cut(value(got), digits)
		if n == nil {
			t.Fatalf("Spread(%v, %d) = %v has more digits", m, digits, got)
		}
		up := add(value(got), mul(tenth(exp), big.NewRat(1, 2)))
		down := tenth(exp)
		if n.String() == ten(digits-1) {
			down = tenth(exp - 1)
		}
		down = sub(value(got), mul(down, big.NewRat(1, 2)))
		if mul(up, up).Cmp(value(v)) < 0 || mul(down, down).Cmp(value(v)) > 0 {
			t.Fatalf("Spread(%v, %d) = %v is not nearest", m, digits, got)
		}
	}
}

// P4.5: where the text is right.
func TestParse(t *testing.T) {
	noughts := func(n int) string { return strings.Repeat("0", n) }
	for _, c := range []struct {
		s    string
		want api.Meas
	}{
		{"1.234(5)", meas("617/500", "m", "1/200")}, {"-12(3)e2", meas("-1200", "m", "300")}, {"5(0)", meas("5")}, {"5(000)", meas("5")},
		{"5", meas("5")}, {"-1/2", meas("-1/2")}, {"007/014", meas("1/2")}, {"1.5e1", meas("15")}, {"0", meas("0")}, {"-0(1)", meas("0", "m", "1")},
		{"1(12)", meas("1", "m", "12")}, {"1(007)", meas("1", "m", "7")}, {"1.0(5)E+1", meas("10", "m", "5")}, {"1.00(5)e-1", meas("1/10", "m", "1/200")}, {"00.10(20)", meas("1/10", "m", "1/5")}, {"0.1(10)", meas("1/10", "m", "1")}, {"2(3)e00000000000000000000000001", meas("20", "m", "30")}, {"2(3)e-0", meas("2", "m", "3")},
		{"1(1)e599", meas(ten(599), "m", ten(599))}, {"0(1)e599", meas("0", "m", ten(599))}, {"0(0)e4096", meas("0")}, {"1(1)e-599", meas("1/"+ten(599), "m", "1/"+ten(599))}, {"0(" + nines(600) + ")", meas("0", "m", nines(600))}, {"1(" + noughts(700) + nines(600) + ")", meas("1", "m", nines(600))}, {"0.1(" + nines(600) + ")", meas("1/10", "m", nines(600)+"/10")}, {"1." + noughts(599) + "(1)", meas("1", "m", "1/"+ten(599))}, {"1(0)" + "e599", meas(ten(599))},
		{noughts(65535-3) + "1(2)", meas("1", "m", "2")}, {"1(" + noughts(65536-4) + "2)", meas("1", "m", "2")}, {"1(2)e" + noughts(65536-5), meas("1", "m", "2")},
	} {
		m, e, at := unc.Parse(c.s, "m")
		if !sameMeas(m, c.want) || e != api.OK || at != 0 {
			t.Errorf("Parse(%.60q) = %v, %d at %d, not %v", c.s, m, e, at, c.want)
		}
	}
}

// P4.5: where it is not.
func TestParseFaults(t *testing.T) {
	noughts := strings.Repeat("0", 70000)
	for _, c := range []struct {
		s, name string
		why     api.Errno
		at      int
	}{
		{"1", "", api.ErrForm, 0}, {"1x", "", api.ErrForm, 0}, {"1", "a b", api.ErrForm, 0}, {noughts, "\x7f", api.ErrForm, 0}, {"1", strings.Repeat("m", api.MaxName+1), api.ErrForm, 0},
		{noughts[:65537], "m", api.ErrSize, 0}, {"x" + noughts, "m", api.ErrSize, 0},
		{"1.2()", "m", api.ErrForm, 4}, {"1/2(3)", "m", api.ErrForm, 3}, {"1(2", "m", api.ErrForm, 3}, {"1(", "m", api.ErrForm, 2}, {"1()", "m", api.ErrForm, 2}, {"(2)", "m", api.ErrForm, 0}, {"-(2)", "m", api.ErrForm, 1}, {"1.(2)", "m", api.ErrForm, 2}, {".1(2)", "m", api.ErrForm, 0}, {"1e5(2)", "m", api.ErrForm, 3}, {"1E(2)", "m", api.ErrForm, 2}, {"1e+(2)", "m", api.ErrForm, 3},
		{"1(2)3", "m", api.ErrForm, 4}, {"1(2).5", "m", api.ErrForm, 4}, {"1(2)/3", "m", api.ErrForm, 4}, {"1(2)(3)", "m", api.ErrForm, 4}, {"1(2) ", "m", api.ErrForm, 4}, {"1(2)e", "m", api.ErrForm, 5}, {"1(2)e+", "m", api.ErrForm, 6}, {"1(2)e+-1", "m", api.ErrForm, 6}, {"1(2)e5x", "m", api.ErrForm, 6}, {"1(2)e5(3)", "m", api.ErrForm, 6}, {"1(2)e5.0", "m", api.ErrForm, 6},
		{"1(-2)", "m", api.ErrForm, 2}, {"1(2.5)", "m", api.ErrForm, 3}, {"1(2e5)", "m", api.ErrForm, 3}, {"1 (2)", "m", api.ErrForm, 1}, {"1( 2)", "m", api.ErrForm, 2}, {"1((2))", "m", api.ErrForm, 2}, {"1)", "m", api.ErrForm, 1}, {"1.5x(2)", "m", api.ErrForm, 3}, {"1/(2)", "m", api.ErrForm, 2}, {"1/0(2)", "m", api.ErrForm, 3},
		{"", "m", api.ErrForm, 0}, {"-", "m", api.ErrForm, 1}, {"+1", "m", api.ErrForm, 0}, {"1.", "m", api.ErrForm, 2}, {"1e5x", "m", api.ErrForm, 3}, {"x", "m", api.ErrForm, 0}, {"1/2x", "m", api.ErrForm, 3},
		{"3/0", "m", api.ErrZero, 2}, {"-13/000", "m", api.ErrZero, 4},
		{"1(1)e600", "m", api.ErrLarge, 0}, {"1e600", "m", api.ErrLarge, 0}, {"0(1)e600", "m", api.ErrLarge, 0}, {"0(11)e599", "m", api.ErrLarge, 0}, {"0(1)e4096", "m", api.ErrLarge, 0}, {"0(0)e4097", "m", api.ErrLarge, 0}, {"0(0)e99999999999999999999", "m", api.ErrLarge, 0}, {"1(1)e-600", "m", api.ErrLarge, 0}, {"1(0)e-600", "m", api.ErrLarge, 0}, {"1(" + ten(600) + ")", "m", api.ErrLarge, 0}, {"1.5(" + ten(600) + ")", "m", api.ErrLarge, 0}, {"1(" + nines(600) + ")e1", "m", api.ErrLarge, 0}, {ten(600) + "(1)", "m", api.ErrLarge, 0}, {"1." + noughts[:600] + "(1)", "m", api.ErrLarge, 0},
		{ten(600) + "(1)x", "m", api.ErrForm, 604},
	} {
		m, e, at := unc.Parse(c.s, c.name)
		if !sameMeas(m, api.Meas{}) || e != c.why || at != c.at {
			t.Errorf("Parse(%.60q, %q) = %v, %d at %d, not %d at %d", c.s, c.name, m, e, at, c.why, c.at)
		}
	}
}

// begins: can an uncertain text go on from s? It is told by states, one a part of its form.
func begins(s string) (beginning, whole bool) {
	next := map[string]string{ // by state: a state for each kind of byte: digits 0, others themselves, E as e
		"":         "-sign 0ahead",
		"sign":     "0ahead",
		"ahead":    "0ahead .point /slash (open ee",
		"slash":    "0under",
		"under":    "0under",
		"point":    "0behind",
		"behind":   "0behind (open ee",
		"open":     "0inside",
		"inside":   "0inside )closed",
		"closed":   "ee",
		"e":        "+esign -esign 0exponent",
		"esign":    "0exponent",
		"exponent": "0exponent",
	}
	state := ""
	for i := range len(s) {
		kind := s[i]
		if kind >= '0' && kind <= '9' {
			kind = '0'
		} else if kind == 'E' {
			kind = 'e'
		}
		found := false
		for _, way := range strings.Fields(next[state]) {
			if way[0] == kind && !found {
				state, found = way[1:], true
			}
		}
		if !found {
			return false, false
		}
	}
	return true, strings.Contains(" ahead under behind closed exponent ", " "+state+" ")
}

// P4.5: all short texts, against the form told by states.
func TestParsePlaces(t *testing.T) {
	var try func(s string, left int)
	try = func(s string, left int) {
		at := len(s)
		for at > 0 {
			if ok, _ := begins(s[:at]); ok {
				break
			}
			at--
		}
		_, whole := begins(s)
		_, e, got := unc.Parse(s, "m")
		if whole && e == api.ErrForm || !whole && (e != api.ErrForm || got != at) {
			t.Fatalf("Parse(%q) = %d at %d; it is a beginning up to %d", s, e, got, at)
		}
		if left == 0 {
			return
		}
		for _, b := range "1-.(/)e+x" {
			try(s+string(b), left-1)
		}
	}
	try("", 5)
	r := rand.New(rand.NewSource(62))
	for range 100000 {
		b := []byte{}
		for range 5 + r.Intn(6) {
			b = append(b, "11111-.(()))eE+/"[r.Intn(16)])
		}
		try(string(b), 0)
	}
}

// P4.6.
func TestPrint(t *testing.T) {
	sum := meas("5", "x", "1/10", "y", "1/5")
	for _, c := range []struct {
		m      api.Meas
		digits int
		want   string
		why    api.Errno
	}{
		{sum, 2, "5.00(22)", api.OK}, {sum, 1, "5.0(2)", api.OK}, {meas("12345", "z", "67"), 1, "1234(7)e1", api.OK}, {meas("12345", "z", "67"), 2, "12345(67)", api.OK}, {meas("12345", "z", "67"), 4, "12345.00(6700)", api.OK}, {meas("1/3"), 1, "1/3", api.OK}, {meas("-7"), 60, "-7", api.OK},
		{sum, 0, "", api.ErrArg}, {sum, 61, "", api.ErrArg}, {meas("1"), 0, "", api.ErrArg}, {meas("1"), 61, "", api.ErrArg}, {meas("1"), -3, "", api.ErrArg},
		{meas("-1/1000", "x", "1"), 1, "0(1)", api.OK}, {meas("-1/1000", "x", "1"), 2, "0.0(10)", api.OK}, {meas("-4", "x", "-100"), 1, "0(1)e2", api.OK}, {meas("-250", "x", "100"), 1, "-2(1)e2", api.OK}, {meas("350", "x", "100"), 1, "4(1)e2", api.OK}, {meas("1/3", "x", "1/7"), 3, "0.333(143)", api.OK}, {meas("0", "x", "19/2"), 1, "0(1)e1", api.OK}, {meas("0", "x", "19/20"), 1, "0(1)", api.OK}, {meas("0", "x", "999/1000"), 2, "0.0(10)", api.OK},
		{meas("1", "x", "1/"+ten(599)), 1, "1." + strings.Repeat("0", 599) + "(1)", api.OK}, {meas("10", "x", "1/"+ten(599)), 1, "", api.ErrLarge}, {meas("1", "x", "1/"+ten(599)), 2, "", api.ErrLarge}, {meas("0", "x", "1/"+ten(599)), 1, "0." + strings.Repeat("0", 599) + "(1)", api.OK}, {meas("1/3", "x", "1/"+ten(599)), 2, "0." + strings.Repeat("3", 600) + "(10)", api.OK}, {meas("1/3", "x", "1/"+ten(599)), 3, "", api.ErrLarge}, {meas("0", "x", "1/"+ten(599)), 3, "", api.ErrLarge}, {meas("0", "x", "1/"+ten(599)), 60, "", api.ErrLarge},
		{meas(nines(600), "x", nines(600)), 1, "1(1)e600", api.OK}, {meas(nines(600), "x", nines(600)), 2, "10(10)e599", api.OK}, {meas("-"+nines(600), "x", "1"), 1, "-" + nines(600) + "(1)", api.OK}, {meas("1/3", "x", ten(599)), 1, "0(1)e599", api.OK}, {meas(nines(600), "x", "1"), 2, "", api.ErrLarge},
	} {
		if s, e := unc.Print(c.m, c.digits); s != c.want || e != c.why {
			t.Errorf("Print(%v, %d) = %.80q, %d, not %.80q, %d", c.m, c.digits, s, e, c.want, c.why)
		}
	}
}

// P4.11.
func TestParseOfPrint(t *testing.T) {
	r := rand.New(rand.NewSource(63))
	for i := range 3000 {
		m := sample(r, 4, []int{1, 2, 6, 40}[i%4])
		digits := 1 + r.Intn(5)
		text, e := unc.Print(m, digits)
		if e != api.OK {
			t.Fatalf("Print(%v, %d): %d", m, digits, e)
		}
		back, e, _ := unc.Parse(text, "again")
		if e != api.OK {
			t.Fatalf("Parse(%q): %d", text, e)
		}
		if len(m.Sources) == 0 {
			checkMeas(t, text, back, e, m, api.OK)
			continue
		}
		by, _ := unc.By(back, "again")
		want, _ := unc.Spread(m, digits)
		if by != want || len(back.Sources) != 1 {
			t.Fatalf("Parse(%q) has By %v, not %v", text, by, want)
		}
		_, exp := cut(value(want), digits)
		away := sub(value(back.Value), value(m.Value))
		if away.Abs(away).Cmp(mul(tenth(exp), big.NewRat(1, 2))) > 0 {
			t.Fatalf("%q is too far from %v", text, m.Value)
		}
	}
}
