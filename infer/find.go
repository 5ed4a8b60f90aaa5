package infer

import (
	"strings"

	"cubit/api"
	"cubit/dim"
	"cubit/house"
)

// finder: finds the dimension of node after node, in their order.
type finder struct {
	house *house.House
	bound []api.Bound
	first map[string]int // of each variable's name the first one
	sense []Sense
}

// spot: what a node's place lets stand there.
type spot struct {
	units bool // it is within the unit of in, where a name is a unit alone
	sums  bool // a number of a scale may stand here
	scale bool // a scale's name may stand here
}

// find: a node's dimension, behind those of its kids; what can not be is thrown.
func (f finder) find(n node, s spot) api.Dim {
	d, e, stands := api.Dim{}, api.OK, Sense{}
	within := spot{units: s.units}
	switch x := n.(type) {
	case number:
		stands.Kind = SNumber
	case name:
		stands, e = f.named(x.text, s)
		d = stands.Dim
	case minus:
		d = f.find(x.a, within)
	case sum:
		d = f.alike(x.pair, spot{sums: true}, spot{sums: true})
	case difference:
		d = f.alike(x.pair, spot{sums: true}, spot{sums: true})
	case product:
		scaled := spot{units: s.units, scale: s.sums && plain(x.a)}
		d, e = dim.Mul(f.find(x.a, within), f.find(x.b, scaled))
		stands = f.scaled(x)
	case quotient:
		d, e = dim.Quo(f.find(x.a, within), f.find(x.b, within))
	case power:
		exp, _ := Power(x.text)
		d, e = dim.Pow(f.find(x.a, within), exp)
	case call:
		if d = f.find(x.a, within); x.text == "sqrt" {
			d, e = dim.Root(d, 2)
		}
	case told:
		d = f.alike(x.pair, spot{sums: true}, spot{units: true, scale: true})
	}
	if e != api.OK {
		panic(fault{e, n.at()})
	}
	stands.Dim = d
	f.sense[n.at()] = stands
	return d
}

// alike: the one dimension of two.
func (f finder) alike(p pair, a, b spot) api.Dim {
	d := f.find(p.a, a)
	if f.find(p.b, b) != d {
		panic(fault{api.ErrDim, p.b.at()})
	}
	return d
}

// plain: is it a number, perhaps with - ahead?
func plain(n node) bool {
	if m, ok := n.(minus); ok {
		n = m.a
	}
	_, ok := n.(number)
	return ok
}

// scaled: is a product a number of a scale?
func (f finder) scaled(p product) Sense {
	if b := f.sense[p.b.at()]; b.Kind == SUnit && scale(b.Unit) {
		return Sense{Kind: SScale, Unit: b.Unit}
	}
	return Sense{}
}

// named: a variable, else a unit, else a constant.
func (f finder) named(text string, s spot) (Sense, api.Errno) {
	if i, bound := f.first[text]; bound && !s.units {
		return Sense{Kind: SVariable, Dim: f.bound[i].Dim, Bound: i}, api.OK
	}
	u, e := f.house.Unit(text)
	switch {
	case e == api.ErrUnit && !s.units:
		return f.constant(text)
	case e != api.OK:
		return Sense{}, e
	case scale(u) && !s.scale:
		return Sense{}, api.ErrAffine
	}
	return Sense{Kind: SUnit, Dim: u.Dim, Unit: u}, api.OK
}

func scale(u api.Unit) bool { return u.Offset.Num != "0" }

// constant: with the dimension of its unit.
func (f finder) constant(text string) (Sense, api.Errno) {
	c, e := f.house.Const(text)
	if e != api.OK {
		return Sense{}, e
	}
	parts, e := partsOf(f.house, c)
	if e != api.OK {
		return Sense{}, e
	}
	product, scales := api.Dim{}, false
	for _, p := range parts {
		scales = scales || scale(p.unit)
		for i := range product {
			product[i] += p.unit.Dim[i] * p.exp // what leaves the bounds on the way may come back
		}
	}
	switch {
	case scales:
		return Sense{}, api.ErrAffine
	case !dim.Right(product):
		return Sense{}, api.ErrExp
	}
	return Sense{Kind: SConst, Dim: product, Const: c}, api.OK
}

// part: of a constant's unit.
type part struct {
	unit api.Unit
	exp  int
}

// partsOf: what the words of a constant's unit are read as, with their exponents.
func partsOf(h *house.House, c api.Const) ([]part, api.Errno) {
	var all []part
	for _, text := range strings.Fields(c.Unit) {
		word, exponent, raised := strings.Cut(text, "^")
		if !raised {
			exponent = "1"
		}
		u, e := h.Unit(word)
		if e != api.OK {
			return nil, e
		}
		exp, _ := Power(exponent)
		all = append(all, part{u, exp})
	}
	return all, api.OK
}
