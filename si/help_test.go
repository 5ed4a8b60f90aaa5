package si_test

import (
	"strconv"
	"strings"
	"testing"

	"cubit/api"
	"cubit/rat"
	"cubit/si"
)

// coherent: the chapter's first table of units, in the order of its first promise: a name, a symbol, and what it is.
const coherent = `
	newton N m kg s^-2; pascal Pa m^-1 kg s^-2; joule J m^2 kg s^-2; watt W m^2 kg s^-3;
	coulomb C s A; volt V m^2 kg s^-3 A^-1; farad F m^-2 kg^-1 s^4 A^2; ohm ` + "\u03a9" + ` m^2 kg s^-3 A^-2; siemens S m^-2 kg^-1 s^3 A^2;
	weber Wb m^2 kg s^-2 A^-1; tesla T kg s^-2 A^-1; henry H m^2 kg s^-2 A^-2;
	hertz Hz s^-1; becquerel Bq s^-1; gray Gy m^2 s^-2; sievert Sv m^2 s^-2; katal kat s^-1 mol;
	radian rad; steradian sr; lumen lm cd; lux lx m^-2 cd`

// along: its second one: a name, a symbol, a factor, which prefixes it takes, and what it is.
const along = `
	minute min 60 0 s; hour h 3600 0 s; day d 86400 0 s; litre L 1/1000 1 m^3; tonne t 1000 1 kg;
	bar bar 100000 1 m^-1 kg s^-2; hectare ha 10000 0 m^2; byte B 8 3 b`

// symbols: of the base units, in the order in which they are told and in that of a dimension's exponents.
const symbols = " m kg s A K mol cd b "

// one: a unit of the tables.
type one struct {
	unit  api.Unit
	parts []api.Part
}

func table(t testing.TB) []one {
	t.Helper()
	var l []one
	for _, text := range strings.Split(coherent, ";") {
		words := strings.Fields(text)
		l = append(l, read(t, words[0], words[1], "1", "1", words[2:]))
	}
	for _, text := range strings.Split(along, ";") {
		words := strings.Fields(text)
		l = append(l, read(t, words[0], words[1], words[2], words[3], words[4:]))
	}
	if len(l) != 29 {
		t.Fatal(len(l))
	}
	return l
}

func read(t testing.TB, name, symbol, factor, takes string, is []string) one {
	t.Helper()
	number, e, _ := rat.Parse(factor)
	if e != api.OK {
		t.Fatal(factor)
	}
	o := one{unit: api.Unit{Name: name, Symbol: symbol, Factor: number, Offset: rat.Of(0), Takes: int(takes[0] - '0')}}
	for _, word := range is {
		part, power, raised := strings.Cut(word, "^")
		exp := 1
		if raised {
			exp, _ = strconv.Atoi(power)
		}
		place := strings.Count(symbols[:strings.Index(symbols, " "+part+" ")], " ")
		o.unit.Dim[place] = exp
		o.parts = append(o.parts, api.Part{Name: part, Exp: exp})
	}
	return o
}

func named(t testing.TB, name string) api.Unit {
	t.Helper()
	u, ok := si.Find(name)
	if !ok || u.Name != name {
		t.Fatal(name, u, ok)
	}
	return u
}
