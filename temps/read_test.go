package temps_test

import (
	"strings"
	"testing"

	"cubit/api"
	"cubit/base"
	"cubit/rat"
	"cubit/temps"
)

// P12.2: the chapter's examples, and others.
func TestTo(t *testing.T) {
	for _, text := range []string{
		"100 °C °F 212", "32 fahrenheit K 5463/20", "-40 celsius fahrenheit -40", "-40 °F °C -40", "0 °C kelvin 5463/20", "0 K °C -5463/20", "0 K °F -45967/100", "0 K °R 0",
		"0 kelvin rankine 0", "1 K °R 9/5", "491.67 °R celsius 0", "671.67 rankine °F 212", "0 °F °R 459.67", "37 °C °F 98.6", "-273.15 °C K 0", "-459.67 °F °C -273.15", "1/3 °C K 16409/60",
	} {
		words := strings.Fields(text)
		checkTo(t, number(t, words[0]), words[1], words[2], number(t, words[3]), api.OK)
	}
}

// P12.2: what is not right goes ahead of all else, then what is no unit, then what is too cold.
func TestToErrors(t *testing.T) {
	for _, x := range notRight() {
		checkTo(t, x, degC, "K", api.Rat{}, api.ErrForm)
		checkTo(t, x, "m", "?", api.Rat{}, api.ErrForm)
	}
	for _, s := range wrong() {
		checkTo(t, rat.Of(1), s, "K", api.Rat{}, api.ErrUnit)
		checkTo(t, rat.Of(1), "K", s, api.Rat{}, api.ErrUnit)
		checkTo(t, rat.Of(-300), s, s, api.Rat{}, api.ErrUnit)
		checkTo(t, rat.Of(-300), degC, s, api.Rat{}, api.ErrUnit)
	}
	for _, text := range []string{"-274 °C", "-1 K", "-1 °R", "-460 °F", "-1e-590 kelvin", "-1e-590 rankine", "-27315000001e-8 celsius", "-45967000001e-8 fahrenheit", "-9e599 °C", "-9e599 °F"} {
		x, from, _ := strings.Cut(text, " ")
		for _, to := range words(t) {
			checkTo(t, number(t, x), from, to, api.Rat{}, api.ErrBelow)
		}
	}
	for _, text := range []string{"-273.15 °C", "0 K", "0 °R", "-459.67 °F"} {
		x, from, _ := strings.Cut(text, " ")
		checkTo(t, number(t, x), from, "K", rat.Of(0), api.OK)
	}
}

// P12.2: only the result counts, not what is reckoned on the way.
func TestToLarge(t *testing.T) {
	most := strings.Repeat("9", api.MaxDigits)
	great := []api.Rat{{Num: most, Den: "1"}, {Num: "1", Den: most}, {Num: most, Den: "1" + strings.Repeat("0", api.MaxDigits-1)}, number(t, "1e599"), number(t, "1e-599")}
	for _, x := range great {
		for _, s := range words(t) {
			checkTo(t, x, s, s, x, api.OK)
		}
	}
	least := api.Rat{Num: "1", Den: "9" + strings.Repeat("0", 599)}
	large := func(x api.Rat, from, to string) { checkTo(t, x, from, to, api.Rat{}, api.ErrLarge) }
	large(number(t, "1e599"), degC, "K")
	large(number(t, "1e599"), "K", degC)
	large(number(t, "9e599"), "K", degR)
	large(number(t, "9e599"), degC, degF)
	large(number(t, "1e-599"), "K", degC)
	large(least, degR, "K")
	checkTo(t, number(t, "1e-599"), degR, "K", api.Rat{Num: "1", Den: "18" + strings.Repeat("0", 598)}, api.OK)
	checkTo(t, number(t, "5e599"), "K", degR, number(t, "9e599"), api.OK)
	checkTo(t, number(t, "9e599"), degR, "K", number(t, "5e599"), api.OK)
	// The sum has fewer digits below than both of its parts.
	sum, e := rat.Sub(number(t, "1e598"), number(t, "5463/20"))
	if e != api.OK {
		t.Fatal(e)
	}
	checkTo(t, sum, degC, "K", number(t, "1e598"), api.OK)
}

// P12.2: the chapter's examples, and others; no offset plays a part, and nothing is too cold.
func TestStep(t *testing.T) {
	for _, text := range []string{"9 °F °C 5", "-1 K °R -9/5", "5 celsius fahrenheit 9", "5 °C K 5", "1 fahrenheit rankine 1", "1 °R kelvin 5/9", "0 °F K 0", "-1000 °C °F -1800", "-1e30 K °C -1e30", "1/3 K °F 3/5"} {
		words := strings.Fields(text)
		checkStep(t, number(t, words[0]), words[1], words[2], number(t, words[3]), api.OK)
	}
	for _, from := range all(t) {
		for _, to := range all(t) {
			for _, x := range samples(t) {
				steps, _ := rat.Mul(x, from.Factor)
				steps, _ = rat.Quo(steps, to.Factor)
				checkStep(t, x, from.Name, to.Symbol, steps, api.OK)
			}
		}
	}
}

// P12.2.
func TestStepErrors(t *testing.T) {
	for _, x := range notRight() {
		checkStep(t, x, degC, "K", api.Rat{}, api.ErrForm)
		checkStep(t, x, "m", "?", api.Rat{}, api.ErrForm)
	}
	for _, s := range wrong() {
		checkStep(t, rat.Of(1), s, "K", api.Rat{}, api.ErrUnit)
		checkStep(t, rat.Of(1), "K", s, api.Rat{}, api.ErrUnit)
		checkStep(t, rat.Of(-300), s, s, api.Rat{}, api.ErrUnit)
	}
	checkStep(t, number(t, "9e599"), "K", degR, api.Rat{}, api.ErrLarge)
	checkStep(t, number(t, "-9e599"), degC, degF, api.Rat{}, api.ErrLarge)
	checkStep(t, api.Rat{Num: "1", Den: "9" + strings.Repeat("0", 599)}, degF, degC, api.Rat{}, api.ErrLarge)
	checkStep(t, number(t, "-5e599"), "K", degF, number(t, "-9e599"), api.OK)
	checkStep(t, number(t, "-9e599"), degF, degR, number(t, "-9e599"), api.OK)
	checkStep(t, number(t, "9e599"), "K", degC, number(t, "9e599"), api.OK)
}

// P12.3: the chapter's examples, and each point on each scale.
func TestFixed(t *testing.T) {
	checkFixed(t, "ice", degF, rat.Of(32), api.OK)
	checkFixed(t, "absolute", degC, number(t, "-5463/20"), api.OK)
	checkFixed(t, "boiling", degR, number(t, "67167/100"), api.OK)
	for point, kelvins := range map[string]string{"absolute": "0", "ice": "5463/20", "triple": "6829/25", "boiling": "7463/20"} {
		checkFixed(t, point, "K", number(t, kelvins), api.OK)
		for _, u := range all(t) {
			mark, _ := rat.Sub(number(t, kelvins), u.Offset)
			mark, _ = rat.Quo(mark, u.Factor)
			checkFixed(t, point, u.Name, mark, api.OK)
			checkFixed(t, point, u.Symbol, mark, api.OK)
			checkTo(t, mark, u.Name, "K", number(t, kelvins), api.OK)
		}
	}
}

// P12.3: what is no point goes ahead of what is no unit.
func TestFixedErrors(t *testing.T) {
	for _, point := range []string{"", " ", "noon", "Ice", "ICE", "ice ", " ice", "points", "celsius", "K", "0", "zero", "absolut", "absolute ice", "boil", "\xff", strings.Repeat("ice", 1<<20)} {
		checkFixed(t, point, "K", api.Rat{}, api.ErrName)
		checkFixed(t, point, "m", api.Rat{}, api.ErrName)
	}
	for _, s := range wrong() {
		checkFixed(t, "ice", s, api.Rat{}, api.ErrUnit)
	}
}

// P12.2: the kelvin is that of base, and no other unit of base is one.
func TestKelvin(t *testing.T) {
	for _, u := range base.Units() {
		e, want := api.ErrUnit, api.Rat{}
		if u.Name == "kelvin" {
			e, want = api.OK, u.Factor
		}
		checkTo(t, rat.Of(1), u.Name, "K", want, e)
		checkTo(t, rat.Of(1), u.Symbol, "kelvin", want, e)
		checkStep(t, rat.Of(1), u.Symbol, "kelvin", want, e)
	}
}

// warm: of the samples those that are not below 0 kelvin.
func warm(t *testing.T, from string) []api.Rat {
	t.Helper()
	var l []api.Rat
	for _, x := range samples(t) {
		if _, e := temps.To(x, from, from); e == api.OK {
			l = append(l, x)
		}
	}
	if len(l) < 10 {
		t.Fatal(from, len(l))
	}
	return l
}

func to(t *testing.T, x api.Rat, from, to string) api.Rat {
	t.Helper()
	r, e := temps.To(x, from, to)
	if e != api.OK {
		t.Fatal(x, from, to, e)
	}
	return r
}

// P12.4: one behind the other; P4: any path gives the same answer.
func TestPaths(t *testing.T) {
	for _, a := range words(t) {
		for _, x := range warm(t, a) {
			checkTo(t, x, a, a, x, api.OK)
			for _, b := range words(t) {
				y := to(t, x, a, b)
				for _, c := range words(t) {
					checkTo(t, y, b, c, to(t, x, a, c), api.OK)
				}
			}
		}
	}
}

// P12.5 and P12.6: differences are steps, and what is above is so on every scale.
func TestDifferences(t *testing.T) {
	for _, a := range all(t) {
		l := warm(t, a.Name)
		for _, b := range all(t) {
			for _, x := range l {
				for _, y := range l {
					far, _ := rat.Sub(x, y)
					p, q := to(t, x, a.Name, b.Symbol), to(t, y, a.Name, b.Symbol)
					there, _ := rat.Sub(p, q)
					checkStep(t, far, a.Symbol, b.Name, there, api.OK)
					here, _ := rat.Cmp(x, y)
					if order, _ := rat.Cmp(p, q); order != here {
						t.Errorf("%v and %v of %s are not so on %s", x, y, a.Name, b.Name)
					}
				}
			}
		}
	}
}
