package prefix

import (
	"slices"
	"strings"

	"cubit/api"
)

// cut: a word's beginning as a prefix, and what a unit must be called so that the word is read.
type cut struct {
	prefix       int // of rows
	binary       bool
	name, symbol string // one of them is empty, and nobody is called so
}

// cuts: all beginnings of a word that are prefixes and leave something.
func cuts(word string) []cut {
	var l []cut
	all := rows()
	for n, r := range all {
		if rest, ok := strings.CutPrefix(word, r.name); ok && rest != "" {
			l = append(l, cut{prefix: n, binary: r.made().binary(), name: rest})
		}
	}
	known := symbols()
	for end := 1; end < len(word); end++ {
		if n, ok := known[word[:end]]; ok {
			l = append(l, cut{prefix: n, binary: all[n].made().binary(), symbol: word[end:]})
		}
	}
	return l
}

func (c cut) reads(u api.Unit) bool {
	called := c.name != "" && c.name == u.Name || c.symbol != "" && c.symbol == u.Symbol
	return called && takes(u, c.binary)
}

func takes(u api.Unit, binary bool) bool {
	if binary {
		return u.Takes == api.BinPrefix || u.Takes == api.AnyPrefix
	}
	return u.Takes == api.SiPrefix || u.Takes == api.AnyPrefix
}

// reading: a prefix and a unit by their numbers: called by names or by symbols, it is one.
type reading struct{ prefix, unit int }

// Split: a word as a prefix and one of some units.
func Split(word string, units []api.Unit) (api.Prefix, int, api.Errno) {
	if word == "" || len(word) > 2*api.MaxName {
		return api.Prefix{}, 0, api.ErrForm
	}
	plain := slices.IndexFunc(units, func(u api.Unit) bool { return u.Name == word || u.Symbol == word })
	if plain >= 0 {
		return api.Prefix{}, plain, api.OK
	}
	found, e := onlyReading(cuts(word), units)
	if e != api.OK {
		return api.Prefix{}, 0, e
	}
	return rows()[found.prefix].told(), found.unit, api.OK
}

func onlyReading(l []cut, units []api.Unit) (reading, api.Errno) {
	found, e := reading{}, api.ErrNone
	for _, c := range l {
		for n, u := range units {
			one := reading{prefix: c.prefix, unit: n}
			if !c.reads(u) || e == api.OK && one == found {
				continue
			}
			if e == api.OK {
				return reading{}, api.ErrMixed
			}
			found, e = one, api.OK
		}
	}
	return found, e
}
