package temps_test

import (
	"strings"
	"testing"

	"cubit/api"
	"cubit/rat"
	"cubit/temps"
)

// The symbols; ° is U+00B0.
const (
	degR = "\u00b0R"
	degC = "\u00b0C"
	degF = "\u00b0F"
)

func number(t testing.TB, s string) api.Rat {
	t.Helper()
	r, e, at := rat.Parse(s)
	if e != api.OK {
		t.Fatal(s, e, at)
	}
	return r
}

// table: the chapter's second table, its rows as units.
func table(t testing.TB) []api.Unit {
	t.Helper()
	unit := func(name, symbol, factor, offset string) api.Unit {
		return api.Unit{Name: name, Symbol: symbol, Dim: api.Dim{0, 0, 0, 0, 1}, Factor: number(t, factor), Offset: number(t, offset), Takes: api.NoPrefix}
	}
	return []api.Unit{
		unit("rankine", degR, "5/9", "0"),
		unit("celsius", degC, "1", "5463/20"),
		unit("fahrenheit", degF, "5/9", "45967/180"),
	}
}

// all: the table's units and the kelvin.
func all(t testing.TB) []api.Unit {
	t.Helper()
	return append(table(t), api.Unit{Name: "kelvin", Symbol: "K", Factor: rat.Of(1), Offset: rat.Of(0)})
}

// words: all that the units are called.
func words(t testing.TB) []string {
	t.Helper()
	var l []string
	for _, u := range all(t) {
		l = append(l, u.Name, u.Symbol)
	}
	return l
}

// wrong: no units, by no name.
func wrong() []string {
	return []string{"", " ", "m", "metre", "J", "C", "F", "R", "k", "\u212a", "degC", "degF", "degR", "\u2103", "\u2109", "\u00b0", "\u00b0K", "\u00b0c", "Celsius", "CELSIUS", "Kelvin", "kelvins", "mK", "millikelvin", "kilocelsius", "k" + degC, degC + " ", " " + degC, degC + "\x00", "\xb0C", "\xc2", "\xff", "points", "ice", "1", "in", "\u02daC", "\u00baC", strings.Repeat("K", 1<<20)}
}

// notRight: no rational numbers.
func notRight() []api.Rat {
	long := strings.Repeat("9", api.MaxDigits+1)
	return []api.Rat{{}, {Num: "1"}, {Den: "1"}, {Num: "2", Den: "4"}, {Num: "-0", Den: "1"}, {Num: "0", Den: "2"}, {Num: "1", Den: "0"}, {Num: "1", Den: "-1"}, {Num: "01", Den: "1"}, {Num: "+1", Den: "1"}, {Num: "1.5", Den: "1"}, {Num: "x", Den: "1"}, {Num: long, Den: "1"}, {Num: "1", Den: long}}
}

// samples: temperatures and differences, below 0 too.
func samples(t testing.TB) []api.Rat {
	t.Helper()
	var l []api.Rat
	for _, s := range strings.Fields("0 1 -1 32 100 212 -40 1/3 -7/9 27315/100 -27315/100 -27316/100 -45967/100 -45968/100 45967/180 373.15 1e30 -1e30 1e-30 123456789/987654321 491.67 5/9 9/5") {
		l = append(l, number(t, s))
	}
	return l
}

func checkTo(t *testing.T, x api.Rat, from, to string, want api.Rat, is api.Errno) {
	t.Helper()
	if r, e := temps.To(x, from, to); r != want || e != is {
		t.Errorf("To(%.40v, %.20q, %.20q) = %.40v, %d, not %.40v, %d", x, from, to, r, e, want, is)
	}
}

func checkStep(t *testing.T, x api.Rat, from, to string, want api.Rat, is api.Errno) {
	t.Helper()
	if r, e := temps.Step(x, from, to); r != want || e != is {
		t.Errorf("Step(%.40v, %.20q, %.20q) = %.40v, %d, not %.40v, %d", x, from, to, r, e, want, is)
	}
}

func checkFixed(t *testing.T, point, scale string, want api.Rat, is api.Errno) {
	t.Helper()
	if r, e := temps.Fixed(point, scale); r != want || e != is {
		t.Errorf("Fixed(%.20q, %.20q) = %v, %d, not %v, %d", point, scale, r, e, want, is)
	}
}
