package nature

import (
	"slices"
	"strconv"
	"strings"

	"cubit/api"
	"cubit/reg"
)

// fact: a constant by its texts, and how it is made. place: how many the start makes ahead of it; units: the symbols of its unit's parts, in the order in which they are told.
type fact struct {
	place         int
	symbol, units string
	made          func() amount
}

// facts: all constants by their names.
func facts() map[string]fact {
	return map[string]fact{
		"avogadro":    {0, "navo", "mol", avogadroMade},
		"boltzmann":   {1, "kboltz", "m kg s K", boltzmannMade},
		"gas":         {2, "rgas", "m kg s K mol", gasMade},
		"charge":      {3, "echarge", "A s", chargeMade},
		"faraday":     {4, "ffar", "A s mol", faradayMade},
		"electron":    {5, "melec", "kg", electronMade},
		"gravitation": {6, "ggrav", "m kg s", gravitationMade},
		"gravity":     {7, "gearth", "m s", gravityMade},
		"light":       {8, "clight", "m s", lightMade},
		"planck":      {9, "hplanck", "m kg s", planckMade},
		"josephson":   {10, "kjos", "m kg s A", josephsonMade},
		"klitzing":    {11, "rklitz", "m kg s A", klitzingMade},
		"proton":      {12, "mprot", "kg", protonMade},
	}
}

func (f fact) told(name string) api.Const {
	a := f.made()
	return api.Const{Name: name, Symbol: f.symbol, Value: a.value.told(), Spread: a.spread.told(), Unit: powers(f.units, a.dim)}
}

// powers: a unit's text: of each part its symbol, and its exponent, if that is not 1.
func powers(units string, d api.Dim) string {
	parts := strings.Fields(units)
	for i, symbol := range parts {
		if exp := d[part(symbol)]; exp != 1 {
			parts[i] = symbol + "^" + strconv.Itoa(exp)
		}
	}
	return strings.Join(parts, " ")
}

// part: the coherent base unit of a symbol.
func part(symbol string) int {
	return slices.Index([]string{metre: "m", kilogram: "kg", second: "s", ampere: "A", kelvin: "K", mole: "mol"}, symbol)
}

// All: the constants, as the start makes them. A registry tells them, as it has no constant that is not right and no word that is two of them.
func All() []api.Const {
	all := facts()
	ordered := make([]api.Const, len(all))
	for name, f := range all {
		ordered[f.place] = f.told(name)
	}
	kept := reg.New()
	for _, c := range ordered {
		kept.Keep(c)
	}
	return kept.Consts()
}

// Find: one of them by its name or symbol.
func Find(s string) (api.Const, bool) {
	all := facts()
	if f, ok := all[s]; ok {
		return f.told(s), true
	}
	for name, f := range all {
		if f.symbol == s {
			return f.told(name), true
		}
	}
	return api.Const{}, false
}
