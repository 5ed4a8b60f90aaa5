package trad_test

import (
	"strconv"
	"strings"
	"testing"

	"cubit/api"
	"cubit/base"
	"cubit/dim"
	"cubit/rat"
	"cubit/si"
	"cubit/trad"
)

// lines: the chapter's second table: a name, a symbol, a dimension, what it is, a factor.
const lines = `
	inch | inch | L | 254/10000 metre | 127/5000
	foot | ft | L | 12 inch | 381/1250
	fathom | ftm | L | 6 foot | 1143/625
	hand | hh | L | 4 inch | 127/1250
	nautical | nmi | L | 1852 metre | 1852
	knot | kn | L T^-1 | nautical by 3600 second | 463/900
	yard | yd | L | 3 foot | 1143/1250
	mile | mi | L | 1760 yard | 201168/125
	acre | ac | L^2 | 43560 foot^2 | 316160658/78125
	atmosphere | atm | L^-1 M T^-2 | 101325 pascal | 101325
	calorie | cal | L^2 M T^-2 | 4.184 joule | 523/125
	gallon | gal | L^3 | 231 inch^3 | 473176473/125000000000
	pint | pt | L^3 | 1/8 gallon | 473176473/1000000000000
	pound | lb | M | 45359237/100000000 kilogram | 45359237/100000000
	grain | gr | M | 1/7000 pound | 6479891/100000000000
	ounce | oz | M | 1/16 pound | 45359237/1600000000
	poundforce | lbf | L M T^-2 | 980665/100000 pound metre by second^2 | 8896443230521/2000000000000
	horsepower | hp | L^2 M T^-3 | 550 foot poundforce by second | 37284993579113511/50000000000000
	psi | psi | L^-1 M T^-2 | poundforce by inch^2 | 8896443230521/1290320000
	stone | st | M | 14 pound | 317514659/50000000
	ton | tn | M | 2000 pound | 45359237/50000
	torr | Torr | L^-1 M T^-2 | 1/760 atmosphere | 20265/152`

// one: a unit of the table, and what it is, as words.
type one struct {
	unit api.Unit
	is   []string
}

func table(t testing.TB) []one {
	t.Helper()
	var l []one
	for line := range strings.Lines(strings.TrimSpace(lines)) {
		cells := strings.Split(line, "|")
		for i, c := range cells {
			cells[i] = strings.TrimSpace(c)
		}
		d, e, _ := dim.Parse(cells[2])
		if e != api.OK {
			t.Fatal(line)
		}
		u := api.Unit{Name: cells[0], Symbol: cells[1], Dim: d, Factor: number(t, cells[4]), Offset: rat.Of(0), Takes: api.NoPrefix}
		l = append(l, one{u, strings.Fields(cells[3])})
	}
	if len(l) != 22 {
		t.Fatal(len(l))
	}
	return l
}

func number(t testing.TB, s string) api.Rat {
	t.Helper()
	r, e, _ := rat.Parse(s)
	if e != api.OK {
		t.Fatal(s, e)
	}
	return r
}

// named: a unit by its name, of whichever package; a kilogram is coherent.
func named(t testing.TB, name string) api.Unit {
	t.Helper()
	if name == "kilogram" {
		return api.Unit{Dim: api.Dim{0, 1}, Factor: rat.Of(1)}
	}
	for _, find := range []func(string) (api.Unit, bool){base.Find, si.Find, trad.Find} {
		if u, ok := find(name); ok && u.Name == name {
			return u
		}
	}
	t.Fatal("no unit is", name)
	return api.Unit{}
}

// term: a number, or a unit, perhaps with an exponent.
func term(t testing.TB, word string) (api.Dim, api.Rat) {
	t.Helper()
	if word[0] >= '0' && word[0] <= '9' {
		return api.Dim{}, number(t, word)
	}
	name, power, raised := strings.Cut(word, "^")
	exp := 1
	if raised {
		exp, _ = strconv.Atoi(power)
	}
	u := named(t, name)
	d, _ := dim.Pow(u.Dim, exp)
	factor, e := rat.Pow(u.Factor, exp)
	if e != api.OK {
		t.Fatal(word, e)
	}
	return d, factor
}

// product: what words of the table's column "is" say; what stands behind "by" divides.
func product(t testing.TB, is []string) (api.Dim, api.Rat) {
	t.Helper()
	d, factor, divides := api.Dim{}, rat.Of(1), false
	for _, word := range is {
		if word == "by" {
			divides = true
			continue
		}
		td, tf := term(t, word)
		if divides {
			d, _ = dim.Quo(d, td)
			factor, _ = rat.Quo(factor, tf)
		} else {
			d, _ = dim.Mul(d, td)
			factor, _ = rat.Mul(factor, tf)
		}
	}
	return d, factor
}
