package base

import (
	"slices"

	"cubit/api"
	"cubit/rat"
	"cubit/reg"
)

// row: a unit by its texts, the prefixes that it takes, and how it is made.
type row struct {
	name, symbol string
	takes        int
	made         func() amount
}

// rows: all base units, in the order in which the start makes them.
func rows() []row {
	return []row{
		{"bit", "b", api.AnyPrefix, bitMade},
		{"mole", "mol", api.SiPrefix, moleMade},
		{"second", "s", api.SiPrefix, secondMade},
		{"ampere", "A", api.SiPrefix, ampereMade},
		{"metre", "m", api.SiPrefix, metreMade},
		{"gram", "g", api.SiPrefix, gramMade},
		{"candela", "cd", api.SiPrefix, candelaMade},
		{"kelvin", "K", api.SiPrefix, kelvinMade},
	}
}

func (r row) told() api.Unit {
	a := r.made()
	return api.Unit{Name: r.name, Symbol: r.symbol, Dim: a.dim, Factor: a.factor(), Offset: rat.Of(0), Takes: r.takes}
}

// Units: all of them, as the start makes them. A registry tells them, as it has no unit that is not right and no word that is two of them.
func Units() []api.Unit {
	all := reg.New()
	for _, r := range rows() {
		all.Add(r.told())
	}
	return all.Units()
}

// Find: one of them by its name or symbol.
func Find(s string) (api.Unit, bool) {
	called := func(r row) bool { return r.name == s || r.symbol == s }
	all := rows()
	n := slices.IndexFunc(all, called)
	if n < 0 {
		return api.Unit{}, false
	}
	return all[n].told(), true
}
