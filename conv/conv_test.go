package conv_test

import (
	"math"
	"math/rand"
	"slices"
	"strings"
	"sync"
	"testing"
	"time"

	"cubit/api"
	"cubit/conv"
	"cubit/dim"
	"cubit/house"
	"cubit/rat"
)

// P24.1: a unit's text, or the place of its fault.
func TestUnit(t *testing.T) {
	h := ownHouse(t)
	for text, want := range map[string]api.Unit{
		"km / h": {Dim: api.Dim{1, 0, -1}, Factor: number("5/18"), Offset: number("0")}, "100 km": {Dim: api.Dim{1}, Factor: number("100000"), Offset: number("0")}, "kg m^2 s^-3": {Dim: api.Dim{2, 1, -3}, Factor: number("1"), Offset: number("0")}, "5": {Factor: number("5"), Offset: number("0")},
		"\u00b0F": {Name: "fahrenheit", Symbol: "\u00b0F", Dim: api.Dim{0, 0, 0, 0, 1}, Factor: number("5/9"), Offset: number("45967/180")}, "( degC )": {Name: "celsius", Symbol: "\u00b0C", Dim: api.Dim{0, 0, 0, 0, 1}, Factor: number("1"), Offset: number("5463/20")}, " km": {Name: "kilometre", Symbol: "km", Dim: api.Dim{1}, Factor: number("1000"), Offset: number("0")}, "m": {Name: "metre", Symbol: "m", Dim: api.Dim{1}, Factor: number("1"), Offset: number("0"), Takes: api.SiPrefix}, "m^1": {Dim: api.Dim{1}, Factor: number("1"), Offset: number("0")}, "m\u00b2": {Dim: api.Dim{2}, Factor: number("1"), Offset: number("0")}, "\u00b5m": {Name: "micrometre", Symbol: "\u03bcm", Dim: api.Dim{1}, Factor: number("1e-6"), Offset: number("0")},
	} {
		if u, e, at := conv.Unit(h, text); u != want || e != api.OK || at != 0 {
			t.Errorf("Unit(%q) = %v, %d, %d", text, u, e, at)
		}
	}
	for text, want := range map[string][2]int{
		"m + m": {3, 0}, " 3 ( m + km )": {3, 5}, "m )": {190, 2}, "": {190, 0}, "foo": {200, 0}, "  foo": {200, 2}, "m foo": {200, 2}, "m / (s * foo)": {200, 9}, "light": {200, 0}, "\u00b0C \u00b0C": {120, 0}, "m \u00b0C": {120, 2}, "\u00b0C^1": {120, 0}, "2 \u00b0C": {120, 2}, "m^100": {51, 0}, "s m^50 * m^50": {51, 0}, "s (m^50 * m^50)": {51, 3}, "m in km": {3, 0}, "-m": {3, 0}, "m * -s": {3, 4}, "sqrt(m^2)": {3, 0}, "s abs(m)": {3, 2}, "0 m": {3, 0}, "m * 2(1)": {3, 4}, "m 0": {190, 2}, "1e599 km": {7, 0}, "m (1e300 km)^2": {7, 2}, "m $": {180, 2}, "1e600 m": {7, 0}, "m^9999": {51, 1}, "in": {190, 0}, "m 2": {190, 2}, strings.Repeat("m ", 40000): {4, 0}, strings.Repeat("(", 200) + "m" + strings.Repeat(")", 200): {0, 0},
	} {
		u, e, at := conv.Unit(h, text)
		if int(e) != want[0] || at != want[1] || e != api.OK && u != (api.Unit{}) {
			t.Errorf("Unit(%.60q) = %v, %d, %d", text, u, e, at)
		}
	}
	odd := oddHouse(t)
	for text, want := range map[string][2]int{"dam": {71, 0}, "m dam": {71, 2}, "hbig": {7, 0}, "m / hbig": {7, 4}, "c": {200, 0}, "C s": {120, 0}, "big big": {7, 0}} {
		if u, e, at := conv.Unit(odd, text); int(e) != want[0] || at != want[1] || u != (api.Unit{}) {
			t.Errorf("Unit(%q) = %v, %d, %d", text, u, e, at)
		}
	}
	for _, text := range []string{"m", "m )", "foo", ""} {
		if u, e, at := conv.Unit(nil, text); u != (api.Unit{}) || e != api.ErrNil || at != 0 {
			t.Errorf("Unit(nil, %q) = %v, %d, %d", text, u, e, at)
		}
	}
}

// P24.2: the chapter's examples, and their like.
func TestTo(t *testing.T) {
	h := ownHouse(t)
	for _, c := range [][4]string{
		{"36", "km/h", "m/s", "10"}, {"1", "N", "kg m s^-2", "1"}, {"98.6", "\u00b0F", "\u00b0C", "37"}, {"1", "kW h", "MJ", "18/5"}, {"20", "degC", "\u00b0F", "68"}, {"-40", "\u00b0C", "\u00b0F", "-40"}, {"0", "K", "\u00b0C", "-5463/20"}, {"0", "m", "km", "0"}, {"3", "2 m", "3 m", "2"}, {"1", "mi", "km", "25146/15625"}, {"-1", "m^2", "cm^2", "-10000"}, {"7", "1", "rad", "7"}, {"1", "1 \u00b7 K", "\u00b0F", "-457.87"}, {"5", "m", "m", "5"}, {"1e599", "m", "m", "1e599"}, {"1e599", "m", "km", "1e596"}, {"1", "L", "m^3", "1/1000"},
	} {
		if r, e := conv.To(h, number(c[0]), c[1], c[2]); r != number(c[3]) || e != api.OK {
			t.Errorf("To(%v) = %v, %d", c, r, e)
		}
	}
	for _, c := range []struct {
		x, from, to string
		want        api.Errno
	}{
		{"1", "m", "kg", api.ErrDim}, {"1", "m", "foo", api.ErrUnit}, {"1", "foo", "m +", api.ErrUnit}, {"1", "m +", "foo", api.ErrSyntax}, {"1", "m", "", api.ErrSyntax}, {"1", "m + m", "foo", api.ErrForm}, {"1", "m", "s + s", api.ErrForm}, {"1", "m", "\u00b0C / s", api.ErrAffine}, {"1e599", "km", "m", api.ErrLarge}, {"1e-599", "m", "km", api.ErrLarge}, {"1e599", "km", "s", api.ErrDim}, {"1", "m", "m^2", api.ErrDim}, {"1", "m^100", "m", api.ErrExp},
	} {
		if r, e := conv.To(h, number(c.x), c.from, c.to); r != (api.Rat{}) || e != c.want {
			t.Errorf("To(%v) = %v, %d", c, r, e)
		}
	}
	odd := oddHouse(t)
	for _, c := range [][4]string{{"1e599", "b", "b", "1e599"}, {"1e300", "b", "K", "1e599"}, {"1e599", "most", "most", "1e599"}, {"1e-599", "least", "least", "1e-599"}, {"1", "most", "1e599 m", "1"}, {"1e300", "b", "1e300 K", "1e299"}} {
		if r, e := conv.To(odd, number(c[0]), c[1], c[2]); r != number(c[3]) || e != api.OK {
			t.Errorf("To(%v) = %s, %d: what is reckoned on the way does not count", c, short(r), e)
		}
	}
}

// P24.3.
func TestWay(t *testing.T) {
	h := ownHouse(t)
	hop := func(from, to, mul, add string) api.Hop {
		return api.Hop{From: from, To: to, Mul: number(mul), Add: number(add)}
	}
	for _, c := range []struct {
		from, to string
		want     []api.Hop
	}{
		{"\u00b0F", "K", []api.Hop{hop("\u00b0F", "= H", "5/9", "45967/180"), hop("= H", "K", "1", "0")}}, {"K", "\u00b0F", []api.Hop{hop("K", "= H", "1", "0"), hop("= H", "\u00b0F", "9/5", "-45967/100")}}, {"km", "mi", []api.Hop{hop("km", "= L", "1000", "0"), hop("= L", "mi", "125/201168", "0")}}, {"km / h", "m s^-1", []api.Hop{hop("km / h", "= L T^-1", "5/18", "0"), hop("= L T^-1", "m s^-1", "1", "0")}},
		{"m", "m", nil}, {"\u00b0C", "\u00b0C", nil}, {"km/h", "km/h", nil}, {"m", " m", []api.Hop{hop("m", "= L", "1", "0"), hop("= L", " m", "1", "0")}}, {"\u00b5m", "\u03bcm", []api.Hop{hop("\u00b5m", "= L", "1e-6", "0"), hop("= L", "\u03bcm", "1000000", "0")}}, {"rad", "1", []api.Hop{hop("rad", "= 1", "1", "0"), hop("= 1", "1", "1", "0")}}, {"degC", "\u00b0C", []api.Hop{hop("degC", "= H", "1", "5463/20"), hop("= H", "\u00b0C", "1", "-5463/20")}},
	} {
		if l, e := conv.Way(h, c.from, c.to); !slices.Equal(l, c.want) || e != api.OK {
			t.Errorf("Way(%q, %q) = %v, %d", c.from, c.to, l, e)
		}
	}
	for _, c := range []struct {
		from, to string
		want     api.Errno
	}{{"m", "s", api.ErrDim}, {"foo", "m +", api.ErrUnit}, {"m +", "foo", api.ErrSyntax}, {"foo", "foo", api.ErrUnit}, {"m", "m + m", api.ErrForm}, {"2 \u00b0C", "2 \u00b0C", api.ErrAffine}} {
		if l, e := conv.Way(h, c.from, c.to); len(l) > 0 || e != c.want {
			t.Errorf("Way(%q, %q) = %v, %d", c.from, c.to, l, e)
		}
	}
	if l, e := conv.Way(oddHouse(t), "least", "most"); len(l) != 2 || l[0].Mul != number("1e-599") || l[1].Mul != number("1e-599") || e != api.OK {
		t.Error(short(l), e)
	}
}

// P24.4.
func TestQuantAndIn(t *testing.T) {
	h, odd := ownHouse(t), oddHouse(t)
	for _, c := range []struct {
		x, unit, want string
		d             api.Dim
	}{{"3", "km", "3000", api.Dim{1}}, {"20", "\u00b0C", "5863/20", api.Dim{0, 0, 0, 0, 1}}, {"-1/2", "km/h", "-5/36", api.Dim{1, 0, -1}}, {"7", "2", "14", api.Dim{}}, {"0", "\u00b0F", "45967/180", api.Dim{0, 0, 0, 0, 1}}, {"1e599", "m", "1e599", api.Dim{1}}} {
		q := api.Quant{Value: number(c.want), Dim: c.d}
		if got, e := conv.Quant(h, number(c.x), c.unit); got != q || e != api.OK {
			t.Errorf("Quant(%s, %q) = %v, %d", c.x, c.unit, got, e)
		}
		if got, e := conv.In(h, q, c.unit); got != number(c.x) || e != api.OK {
			t.Errorf("In(%v, %q) = %v, %d", q, c.unit, got, e)
		}
	}
	for _, c := range []struct {
		x, unit string
		want    api.Errno
	}{{"1", "foo", api.ErrUnit}, {"1", "m )", api.ErrSyntax}, {"1", "m + m", api.ErrForm}, {"1e599", "km", api.ErrLarge}, {"1e-599", "mm", api.ErrLarge}} {
		if q, e := conv.Quant(h, number(c.x), c.unit); q != (api.Quant{}) || e != c.want {
			t.Errorf("Quant(%s, %q) = %v, %d", c.x, c.unit, q, e)
		}
	}
	long := api.Dim{1}
	for _, c := range []struct {
		x    string
		d    api.Dim
		unit string
		want api.Errno
	}{{"1", long, "foo", api.ErrUnit}, {"1", long, "m )", api.ErrSyntax}, {"1", api.Dim{100}, "m", api.ErrDim}, {"1", api.Dim{}, "m", api.ErrDim}, {"1", api.Dim{1, 1}, "m", api.ErrDim}, {"1", api.Dim{7: math.MinInt}, "1", api.ErrDim}, {"1e599", long, "mm", api.ErrLarge}, {"1e599", api.Dim{}, "mm", api.ErrDim}, {"1e-599", long, "km", api.ErrLarge}} {
		if x, e := conv.In(h, api.Quant{Value: number(c.x), Dim: c.d}, c.unit); x != (api.Rat{}) || e != c.want {
			t.Errorf("In(%s %v, %q) = %v, %d", c.x, c.d, c.unit, x, e)
		}
	}
	if q, e := conv.Quant(odd, number("1e300"), "b"); q.Value != number("1e599") || e != api.OK {
		t.Error(short(q), e)
	}
	if x, e := conv.In(odd, api.Quant{Value: number("1e599"), Dim: api.Dim{0, 0, 0, 0, 1}}, "b"); x != number("1e300") || e != api.OK {
		t.Error(short(x), e)
	}
}

// P24.5.
func TestUnc(t *testing.T) {
	h, odd := ownHouse(t), oddHouse(t)
	for _, c := range []struct {
		m        api.Meas
		from, to string
		want     api.Meas
	}{
		{meas("36", "a", "9", "b", "-18/5"), "km/h", "m/s", meas("10", "a", "5/2", "b", "-1")}, {meas("68", "t", "9/10"), "\u00b0F", "\u00b0C", meas("20", "t", "1/2")}, {meas("1"), "m", "km", meas("1/1000")}, {meas("0", "t", "1"), "\u00b0C", "K", meas("5463/20", "t", "1")}, {meas("0", "a", "1"), "m", "m", meas("0", "a", "1")}, {meas("1", "a", "1e599"), "m", "m", meas("1", "a", "1e599")},
	} {
		if m, e := conv.Unc(h, c.m, c.from, c.to); !sameMeas(m, c.want) || e != api.OK {
			t.Errorf("Unc(%v, %q, %q) = %v, %d", c.m, c.from, c.to, m, e)
		}
	}
	for _, c := range []struct {
		m        api.Meas
		from, to string
		want     api.Errno
	}{
		{meas("1", "a", "1"), "m", "s", api.ErrDim}, {meas("1", "a", "1"), "foo", "m +", api.ErrUnit}, {meas("1", "a", "1"), "m +", "foo", api.ErrSyntax}, {meas("0", "a", "1e599"), "km", "m", api.ErrLarge}, {meas("0", "a", "1", "b", "1e-599"), "m", "km", api.ErrLarge}, {meas("1e599", "a", "1"), "km", "m", api.ErrLarge}, {meas("0", "a", "1e599"), "km", "s", api.ErrDim},
	} {
		if m, e := conv.Unc(h, c.m, c.from, c.to); !sameMeas(m, api.Meas{}) || e != c.want {
			t.Errorf("Unc(%s, %q, %q) = %s, %d", short(c.m), c.from, c.to, short(m), e)
		}
	}
	if m, e := conv.Unc(odd, meas("1e300", "a", "1e299"), "b", "1e300 K"); !sameMeas(m, meas("1e299", "a", "1e299")) || e != api.OK {
		t.Error(short(m), e)
	}
	if m, e := conv.Unc(odd, meas("1e300", "a", "1e599"), "b", "b"); !sameMeas(m, meas("1e300", "a", "1e599")) || e != api.OK {
		t.Error(short(m), e)
	}
}

// P24.6: the sign of a 0, too; each error at its place in the order.
func TestFloat(t *testing.T) {
	h, odd := ownHouse(t), oddHouse(t)
	none := math.Copysign(0, -1)
	check := func(h *house.House, f float64, from, to string, want float64, why api.Errno) {
		t.Helper()
		got, e := conv.Float(h, f, from, to)
		if math.Float64bits(got) != math.Float64bits(want) || e != why {
			t.Errorf("Float(%v, %q, %q) = %v, %d, not %v, %d", f, from, to, got, e, want, why)
		}
		if math.IsNaN(f) || math.IsInf(f, 0) {
			return
		}
		if model, told := floated(h, f, from, to); math.Float64bits(model) != math.Float64bits(want) || told != why {
			t.Errorf("the model of Float(%v, %q, %q): %v, %d", f, from, to, model, told)
		}
	}
	check(h, 100, "\u00b0C", "\u00b0F", (held(373.15)-held(45967.0/180))/held(5.0/9), api.OK)
	check(h, 36, "km/h", "m/s", held(36)*held(5.0/18), api.OK)
	check(h, 1, "mi", "km", held(1609.344)/1000, api.OK)
	check(h, none, "m", "m", 0, api.OK) // +0 is added, and taken away
	check(h, none, "\u00b0C", "\u00b0C", 0, api.OK)
	check(h, -5e-324, "m", "km", none, api.OK)
	check(h, 5e-324, "m", "km", 0, api.OK)
	check(h, -5e-324, "mm", "m", 0, api.OK)
	check(h, -273.15, "\u00b0C", "K", 0, api.OK)
	check(h, math.MaxFloat64, "m", "m", math.MaxFloat64, api.OK)
	check(h, math.MaxFloat64, "m", "km", math.MaxFloat64/1000, api.OK)
	check(h, math.MaxFloat64, "km", "m", 0, api.ErrInf)
	check(h, math.MaxFloat64, "km", "km", 0, api.ErrInf) // on the way
	check(h, 1e306, "m", "mm", 0, api.ErrInf)
	check(h, -1e306, "m", "mm", 0, api.ErrInf)
	check(odd, 1, "tiny", "tiny", 0, api.ErrZero)
	check(odd, 1, "huge", "m", 0, api.ErrInf)
	check(odd, 1, "m", "huge", 0, api.ErrInf)
	check(odd, 1, "huge", "tiny", 0, api.ErrInf)
	check(odd, 1e10, "big", "tiny", 0, api.ErrInf) // a step goes ahead of what is divided by
	check(odd, 1, "big", "tiny", 0, api.ErrZero)
	check(odd, 0, "big", "tiny", 0, api.ErrZero)
	check(odd, 1, "tiny", "m", 0, api.OK)
	check(odd, -1, "tiny", "m", 0, api.OK)
	check(odd, 0, "w", "K", 0, api.ErrInf)
	check(odd, 0, "K", "w", 0, api.ErrInf)
	check(odd, 0, "r", "f", 0, api.ErrInf)
	check(odd, 0, "f", "f", 0, api.ErrZero)
	check(odd, 1.5, "g", "K", held(1.5e308)-1e308, api.OK)
	check(odd, 2, "g", "K", 0, api.ErrInf) // the product
	check(odd, 1.9, "g", "g", 0, api.ErrInf)
	check(odd, 1.5, "g", "g", held(1.5*1e308-1e308+1e308)/1e308, api.OK)
	check(odd, -1, "g", "K", 0, api.ErrInf)        // the sum
	check(odd, 1, "1.5e308 K", "g", 0, api.ErrInf) // the difference
	check(odd, none, "K", "K", 0, api.OK)          // -0 and +0
	check(odd, none, "fa", "K", none, api.OK)      // -0 and -0, less +0
	check(odd, none, "fa", "fa", 0, api.OK)        // likewise, less -0
	check(odd, none, "K", "fa", 0, api.OK)         // +0 less -0
	check(nil, math.NaN(), "m", "foo", 0, api.ErrNil)
	check(nil, 1, "m", "m", 0, api.ErrNil)
	check(h, math.NaN(), "m", "foo", 0, api.ErrNan)
	check(h, math.Inf(1), "m", "foo", 0, api.ErrInf)
	check(h, math.Inf(-1), "", "foo", 0, api.ErrInf)
	check(h, 1, "foo", "m +", 0, api.ErrUnit)
	check(h, 1, "m +", "foo", 0, api.ErrSyntax)
	check(h, 1, "m", "s", 0, api.ErrDim)
	check(odd, 1, "huge", "s", 0, api.ErrDim) // ahead of what no float is nearest to
	check(odd, math.MaxFloat64, "w", "tiny / s", 0, api.ErrDim)
}

// held: a float that is no constant, so that nothing is worked out without rounding.
func held(f float64) float64 { return f }

// P24.2 to P24.6, P5: pairs of units of chance against the model, in both houses.
func TestAgainstTheModel(t *testing.T) {
	r := rand.New(rand.NewSource(241))
	for _, odd := range []bool{false, true} {
		h := ownHouse(t)
		if odd {
			h = oddHouse(t)
		}
		seen := map[api.Errno]int{}
		for range 7000 {
			from, into := grownPair(r, odd)
			seen[checkPair(t, r, h, from, into)]++
		}
		for _, e := range []api.Errno{api.OK, api.ErrDim, api.ErrUnit, api.ErrForm, api.ErrSyntax, api.ErrLarge, api.ErrInf} {
			if seen[e] < 10 {
				t.Error("so few of", e, seen)
			}
		}
		if odd && seen[api.ErrZero] < 100 {
			t.Error("so few of ErrZero", seen)
		}
	}
}

// checkPair: all calls on two texts; what Float says, or else To.
func checkPair(t *testing.T, r *rand.Rand, h *house.House, from, into string) api.Errno {
	x, m, f := sample(r), sampleMeas(r), sampleFloat(r)
	want, why, place := unit(h, from)
	if u, e, at := conv.Unit(h, from); u != want || e != why || at != place {
		t.Errorf("Unit(%q) = %v, %d, %d, not %v, %d, %d", from, u, e, at, want, why, place)
	}
	value, no := to(h, x, from, into)
	if got, e := conv.To(h, x, from, into); got != value || e != no {
		t.Errorf("To(%s, %q, %q) = %s, %d, not %s, %d", short(x), from, into, short(got), e, short(value), no)
	}
	moved, e := uncertain(h, m, from, into)
	if got, why := conv.Unc(h, m, from, into); !sameMeas(got, moved) || e != why {
		t.Errorf("Unc(%s, %q, %q) = %s, %d, not %s, %d", short(m), from, into, short(got), why, short(moved), e)
	}
	rounded, not := floated(h, f, from, into)
	if got, e := conv.Float(h, f, from, into); math.Float64bits(got) != math.Float64bits(rounded) || e != not {
		t.Errorf("Float(%v, %q, %q) = %v, %d, not %v, %d", f, from, into, got, e, rounded, not)
	}
	checkQuant(t, h, x, from, want, why)
	checkWay(t, h, from, into)
	if not == api.OK {
		return no
	}
	return not
}

func checkQuant(t *testing.T, h *house.House, x api.Rat, text string, u api.Unit, why api.Errno) {
	quant, number := api.Quant{}, api.Rat{}
	back := why
	if why == api.OK {
		quant.Value, why = told(coherent(bigOf(x), u))
		number, back = told(counted(bigOf(x), u))
		if why == api.OK {
			quant.Dim = u.Dim
		}
	}
	if q, e := conv.Quant(h, x, text); q != quant || e != why {
		t.Errorf("Quant(%s, %q) = %s, %d", short(x), text, short(q), e)
	}
	if v, e := conv.In(h, api.Quant{Value: x, Dim: u.Dim}, text); v != number || e != back {
		t.Errorf("In(%s, %q) = %s, %d", short(x), text, short(v), e)
	}
}

func checkWay(t *testing.T, h *house.House, from, into string) {
	a, b, why := units(h, from, into)
	var want []api.Hop
	if why == api.OK && from != into {
		middle, _ := dim.Print(a.Dim)
		one, _ := told(counted(bigOf(rat.Of(1)), api.Unit{Factor: b.Factor, Offset: rat.Of(0)}))
		none, _ := told(counted(bigOf(rat.Of(0)), b))
		want = []api.Hop{{From: from, To: "= " + middle, Mul: a.Factor, Add: a.Offset}, {From: "= " + middle, To: into, Mul: one, Add: none}}
	}
	if l, e := conv.Way(h, from, into); !slices.Equal(l, want) || e != why {
		t.Errorf("Way(%q, %q) = %s, %d, not %s, %d", from, into, short(l), e, short(want), why)
	}
}

// Which error goes ahead: of a house, of what is given, of the units.
func TestWrongArguments(t *testing.T) {
	h := ownHouse(t)
	wrongs := []api.Rat{{}, {Num: "2", Den: "4"}, {Num: "-0", Den: "1"}, {Num: "1", Den: "0"}, {Num: "1", Den: "-1"}, {Num: "1" + strings.Repeat("0", 600), Den: "1"}, {Num: "01", Den: "1"}, {Num: "0", Den: "2"}}
	check := func(h *house.House, x api.Rat, m api.Meas, want api.Errno) {
		t.Helper()
		if r, e := conv.To(h, x, "foo", "m"); r != (api.Rat{}) || e != want {
			t.Errorf("To: %v, %d", r, e)
		}
		if q, e := conv.Quant(h, x, "foo"); q != (api.Quant{}) || e != want {
			t.Errorf("Quant: %v, %d", q, e)
		}
		if r, e := conv.In(h, api.Quant{Value: x, Dim: api.Dim{7}}, "foo"); r != (api.Rat{}) || e != want {
			t.Errorf("In: %v, %d", r, e)
		}
		if r, e := conv.Unc(h, m, "foo", "m"); !sameMeas(r, api.Meas{}) || e != want {
			t.Errorf("Unc: %v, %d", r, e)
		}
	}
	for _, x := range wrongs {
		check(nil, x, api.Meas{Value: x}, api.ErrNil)
		check(h, x, api.Meas{Value: x}, api.ErrForm)
		check(h, x, api.Meas{Value: rat.Of(1), Sources: []api.Source{{Name: "a", By: x}}}, api.ErrForm)
	}
	for _, m := range []api.Meas{meas("1", "a", "0"), meas("1", "", "1"), meas("1", "b", "1", "a", "1"), meas("1", "a", "1", "a", "1"), {Value: rat.Of(1), Sources: make([]api.Source, 65)}} {
		check(h, api.Rat{}, m, api.ErrForm)
	}
	check(h, rat.Of(1), meas("1"), api.ErrUnit)
	if l, e := conv.Way(nil, "m", "m"); len(l) > 0 || e != api.ErrNil {
		t.Error(l, e)
	}
}

// Between units that were read it is Unc.
func TestBetween(t *testing.T) {
	r := rand.New(rand.NewSource(242))
	found := 0
	for i, h := range []*house.House{ownHouse(t), oddHouse(t)} {
		for range 2000 {
			from, into := grownPair(r, i == 1)
			a, e, _ := conv.Unit(h, from)
			b, why, _ := conv.Unit(h, into)
			if e != api.OK || why != api.OK {
				continue
			}
			m := sampleMeas(r)
			want, no := conv.Unc(h, m, from, into)
			if got, e := conv.Between(m, a, b); !sameMeas(got, want) || e != no {
				t.Errorf("Between(%s, %q, %q) = %s, %d, not %s, %d", short(m), from, into, short(got), e, short(want), no)
			}
			if got, e := conv.Between(api.Meas{}, a, b); !sameMeas(got, api.Meas{}) || e != api.ErrForm {
				t.Error(got, e)
			}
			found++
		}
	}
	if found < 3000 {
		t.Error("so few:", found)
	}
}

// What is answered is new, what was given stays.
func TestAnswersAreNew(t *testing.T) {
	h := ownHouse(t)
	sources := append(make([]api.Source, 0, 4), api.Source{Name: "a", By: rat.Of(1)})
	m := api.Meas{Value: rat.Of(3), Sources: sources}
	first, _ := conv.Unc(h, m, "m", "m")
	first.Sources[0].Name = "gone"
	_ = append(first.Sources, api.Source{Name: "gone"})
	if second, _ := conv.Unc(h, m, "m", "m"); !sameMeas(second, meas("3", "a", "1")) || sources[0].Name != "a" || sources[:2][1] != (api.Source{}) {
		t.Error(second, sources[:2])
	}
	way, _ := conv.Way(h, "km", "m")
	way[0], way[1] = api.Hop{}, api.Hop{}
	if again, _ := conv.Way(h, "km", "m"); again[0].From != "km" || again[1].To != "m" {
		t.Error(again)
	}
}

func TestManyAtOneTime(t *testing.T) {
	h := ownHouse(t)
	pairs := [][2]string{{"km/h", "m/s"}, {"\u00b0C", "\u00b0F"}, {"m", "s"}, {"foo", "m"}, {"m +", "m"}, {"kW h", "MJ"}}
	tell := func(from, into string) string {
		u, e, at := conv.Unit(h, from)
		x, no := conv.To(h, rat.Of(7), from, into)
		l, not := conv.Way(h, from, into)
		m, never := conv.Unc(h, meas("7", "a", "1/3"), from, into)
		f, nor := conv.Float(h, 7, from, into)
		return short([]any{u, e, at, x, no, l, not, m, never, f, nor})
	}
	var want []string
	for _, p := range pairs {
		want = append(want, tell(p[0], p[1]))
	}
	var wait sync.WaitGroup
	for range 8 {
		wait.Go(func() {
			for range 50 {
				for i, p := range pairs {
					if got := tell(p[0], p[1]); got != want[i] {
						t.Errorf("%q: %s", p, got)
					}
				}
			}
		})
	}
	wait.Wait()
}

// balanced: a text of just so many parts that is not deep.
func balanced(parts int, word, sign string) string {
	if parts == 1 {
		return word
	}
	return "(" + balanced(parts/2, word, sign) + ")" + sign + "(" + balanced(parts-parts/2, word, sign) + ")"
}

// At the limits all ends soon.
func TestGreatTexts(t *testing.T) {
	begun := time.Now()
	h, r := ownHouse(t), rand.New(rand.NewSource(249))
	many := balanced(2048, "(km/m)", "/")
	if x, e := conv.To(h, rat.Of(1), many, many); x != rat.Of(1) || e != api.OK {
		t.Error(short(x), e)
	}
	if _, e := conv.To(h, rat.Of(1), "m", balanced(4096, "m", "*")); e != api.ErrExp {
		t.Error(e)
	}
	if _, e := conv.To(h, rat.Of(1), "m", balanced(5000, "m", "*")); e != api.ErrSize {
		t.Error(e)
	}
	m := api.Meas{Value: number(digits(r, 600))}
	for i := range 64 {
		by, _ := rat.New(digits(r, 595), digits(r, 595))
		m.Sources = append(m.Sources, api.Source{Name: "s" + rat.Of(int64(100+i)).Num, By: by})
	}
	for range 20 {
		if got, e := conv.Unc(h, m, "km/h", "5 km / (5 h)"); !sameMeas(got, m) || e != api.OK {
			t.Error(short(got), e)
		}
	}
	if _, e := conv.Unc(h, m, digits(r, 590)+" m", digits(r, 590)+" m"); e != api.ErrLarge {
		t.Error(e)
	}
	if used := time.Since(begun); used > 20*time.Second {
		t.Error(used)
	}
}
