package reg

import (
	"maps"
	"slices"

	"cubit/api"
	"cubit/names"
	"cubit/prefix"
	"cubit/rat"
)

// read: a word, folded, and for what it stands in the registry, if it does.
func (r *Registry) read(word string) (string, thing, api.Errno) {
	if r == nil {
		return "", thing{}, api.ErrNil
	}
	folded, e, _ := names.Fold(word)
	return folded, r.words[folded], e
}

// Find: the unit of a word, perhaps with a prefix.
func (r *Registry) Find(word string) (api.Unit, api.Errno) {
	folded, known, e := r.read(word)
	switch {
	case e != api.OK:
		return api.Unit{}, e
	case known.unit != nil:
		return known.unit.told, api.OK
	case known.constant != nil:
		return api.Unit{}, api.ErrUnit
	}
	return r.prefixed(folded)
}

// prefixed: the unit of a word that stands for nothing by itself.
func (r *Registry) prefixed(word string) (api.Unit, api.Errno) {
	called, of := r.called()
	p, n, e := prefix.Split(word, called)
	switch e {
	case api.OK:
		return with(p, of[n].told)
	case api.ErrNone:
		return api.Unit{}, api.ErrUnit
	}
	return api.Unit{}, e
}

// called: the units by all that they are called, as prefix.Split takes them, and of which unit each of these is.
func (r *Registry) called() ([]api.Unit, []*unit) {
	var called []api.Unit
	var of []*unit
	for _, u := range r.units {
		called, of = append(called, u.told), append(of, u)
		for _, word := range u.aliases {
			alias := u.told
			alias.Name, alias.Symbol = word, word
			called, of = append(called, alias), append(of, u)
		}
	}
	return called, of
}

// with: a unit behind a prefix.
func with(p api.Prefix, u api.Unit) (api.Unit, api.Errno) {
	factor, e := rat.Mul(p.Factor, u.Factor)
	if e != api.OK {
		return api.Unit{}, e
	}
	u.Name, u.Symbol = p.Name+u.Name, p.Symbol+u.Symbol
	u.Factor, u.Takes = factor, api.NoPrefix
	return u, api.OK
}

// Const: the constant of a word.
func (r *Registry) Const(word string) (api.Const, api.Errno) {
	_, known, e := r.read(word)
	switch {
	case e != api.OK:
		return api.Const{}, e
	case known.constant == nil:
		return api.Const{}, api.ErrName
	}
	return *known.constant, api.OK
}

// Units: as they came.
func (r *Registry) Units() []api.Unit {
	if r == nil {
		return nil
	}
	var l []api.Unit
	for _, u := range r.units {
		l = append(l, u.told)
	}
	return l
}

// Consts: as they came.
func (r *Registry) Consts() []api.Const {
	if r == nil {
		return nil
	}
	var l []api.Const
	for _, c := range r.consts {
		l = append(l, *c)
	}
	return l
}

// Words: all that stand for something, in the order of their runes.
func (r *Registry) Words() []string {
	if r == nil {
		return nil
	}
	return names.Sort(slices.Collect(maps.Keys(r.words)))
}

// Alike: the symbols of the units of a dimension, as these came.
func (r *Registry) Alike(d api.Dim) []string {
	var l []string
	for _, u := range r.Units() {
		if u.Dim == d {
			l = append(l, u.Symbol)
		}
	}
	return l
}
