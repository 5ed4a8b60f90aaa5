package house

import (
	"cubit/api"
	"cubit/names"
	"cubit/rat"
)

// maxParts: of a declaration.
const maxParts = 64

// right: is a declaration one that can be, by itself? (As decl.Right says it, which is behind this layer.)
func right(d api.Decl) bool {
	rest, ok := besides(d)
	return ok && blank(rest)
}

// besides: a declaration without the fields that its kind has, if these are right.
func besides(d api.Decl) (api.Decl, bool) {
	rest := d
	rest.Kind, rest.Name, rest.Symbol, rest.Factor = 0, "", "", api.Rat{}
	called := names.Right(d.Name) && names.Right(d.Symbol)
	switch d.Kind {
	case api.DBase:
		rest.Dim, rest.Takes = api.Dim{}, 0
		return rest, called && above(d.Factor) && single(d.Dim) && rightTakes(d.Takes)
	case api.DUnit:
		rest.Parts, rest.Takes = nil, 0
		return rest, called && above(d.Factor) && rightParts(d.Parts) && rightTakes(d.Takes)
	case api.DScale:
		rest.Of, rest.Offset = "", api.Rat{}
		return rest, called && names.Right(d.Of) && above(d.Factor) && rat.Right(d.Offset)
	case api.DAlias:
		rest.Of, rest.Symbol, rest.Factor = "", d.Symbol, d.Factor
		return rest, names.Right(d.Name) && names.Right(d.Of)
	case api.DPrefix:
		rest.Takes = 0
		return rest, called && above(d.Factor) && (d.Takes == api.SiPrefix || d.Takes == api.BinPrefix)
	case api.DConst:
		rest.Spread, rest.Parts = api.Rat{}, nil
		return rest, called && rat.Right(d.Factor) && notBelow(d.Spread) && rightParts(d.Parts)
	}
	return d, false
}

// blank: is each of its fields a zero value?
func blank(d api.Decl) bool {
	none := api.Rat{}
	texts := d.Name == "" && d.Symbol == "" && d.Of == ""
	numbers := d.Factor == none && d.Offset == none && d.Spread == none
	return d.Kind == 0 && texts && numbers && d.Dim == api.Dim{} && len(d.Parts) == 0 && d.Takes == 0
}

func above(r api.Rat) bool {
	sign, e := rat.Sign(r)
	return e == api.OK && sign > 0
}

func notBelow(r api.Rat) bool {
	sign, e := rat.Sign(r)
	return e == api.OK && sign >= 0
}

func rightTakes(n int) bool { return n >= api.NoPrefix && n <= api.AnyPrefix }

// single: is it the dimension of one base unit?
func single(d api.Dim) bool {
	for place := range d {
		one := api.Dim{}
		one[place] = 1
		if d == one {
			return true
		}
	}
	return false
}

func rightParts(l []api.Part) bool {
	if len(l) > maxParts {
		return false
	}
	for _, p := range l {
		if !names.Right(p.Name) || p.Exp < -api.MaxExp || p.Exp > api.MaxExp || p.Exp == 0 {
			return false
		}
	}
	return true
}
