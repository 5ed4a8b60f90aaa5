package infer

import (
	"strings"

	"cubit/api"
	"cubit/dim"
	"cubit/house"
)

// finder: finds the dimension of node after node, in their order.
type finder struct {
	house *house.House
	bound []api.Bound
	first map[string]int // of each variable's name the first one
	dims  []api.Dim
}

// spot: what a node's place lets stand there.
type spot struct {
	units bool // it is within the unit of in, where a name is a unit alone
	sums  bool // a number of a scale may stand here
	scale bool // a scale's name may stand here
}

// find: a node's dimension, behind those of its kids; what can not be is thrown.
func (f finder) find(n node, s spot) api.Dim {
	d, e := api.Dim{}, api.OK
	within := spot{units: s.units}
	switch x := n.(type) {
	case name:
		d, e = f.named(x.text, s)
	case minus:
		d = f.find(x.a, within)
	case sum:
		d = f.alike(x.pair, spot{sums: true}, spot{sums: true})
	case difference:
		d = f.alike(x.pair, spot{sums: true}, spot{sums: true})
	case product:
		scaled := spot{units: s.units, scale: s.sums && plain(x.a)}
		d, e = dim.Mul(f.find(x.a, within), f.find(x.b, scaled))
	case quotient:
		d, e = dim.Quo(f.find(x.a, within), f.find(x.b, within))
	case power:
		exp, _ := Power(x.text)
		d, e = dim.Pow(f.find(x.a, within), exp)
	case call:
		if d = f.find(x.a, within); x.text == "sqrt" {
			d, e = dim.Root(d, 2)
		}
	case told:
		d = f.alike(x.pair, spot{sums: true}, spot{units: true, scale: true})
	}
	if e != api.OK {
		panic(fault{e, n.at()})
	}
	f.dims[n.at()] = d
	return d
}

// alike: the one dimension of two.
func (f finder) alike(p pair, a, b spot) api.Dim {
	d := f.find(p.a, a)
	if f.find(p.b, b) != d {
		panic(fault{api.ErrDim, p.b.at()})
	}
	return d
}

// plain: is it a number, perhaps with - ahead?
func plain(n node) bool {
	if m, ok := n.(minus); ok {
		n = m.a
	}
	_, ok := n.(number)
	return ok
}

// named: the dimension of a variable, else of a unit, else of a constant.
func (f finder) named(text string, s spot) (api.Dim, api.Errno) {
	if i, bound := f.first[text]; bound && !s.units {
		return f.bound[i].Dim, api.OK
	}
	u, e := f.house.Unit(text)
	switch {
	case e == api.ErrUnit && !s.units:
		return f.constant(text)
	case e != api.OK:
		return api.Dim{}, e
	case scale(u) && !s.scale:
		return api.Dim{}, api.ErrAffine
	}
	return u.Dim, api.OK
}

func scale(u api.Unit) bool { return u.Offset.Num != "0" }

// constant: the dimension of its unit.
func (f finder) constant(text string) (api.Dim, api.Errno) {
	c, e := f.house.Const(text)
	if e != api.OK {
		return api.Dim{}, e
	}
	product, scales := api.Dim{}, false
	for _, part := range strings.Fields(c.Unit) {
		word, exponent, raised := strings.Cut(part, "^")
		if !raised {
			exponent = "1"
		}
		u, e := f.house.Unit(word)
		if e != api.OK {
			return api.Dim{}, e
		}
		exp, _ := Power(exponent)
		scales = scales || scale(u)
		for i := range product {
			product[i] += u.Dim[i] * exp // what leaves the bounds on the way may come back
		}
	}
	switch {
	case scales:
		return api.Dim{}, api.ErrAffine
	case !dim.Right(product):
		return api.Dim{}, api.ErrExp
	}
	return product, api.OK
}
