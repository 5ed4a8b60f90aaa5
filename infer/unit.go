package infer

import (
	"cubit/api"
	"cubit/dim"
	"cubit/house"
	"cubit/rat"
)

// Unit: an expression of units alone, made one unit; or the node that can not be.
func Unit(h *house.House, t api.Tree) (unit api.Unit, why api.Errno, at int) {
	if why, at = standing(h, t); why != api.OK {
		return api.Unit{}, why, at
	}
	if len(t.Nodes) == 1 && t.Nodes[0].Kind == api.NName {
		unit, why = h.Unit(t.Nodes[0].Text)
		return unit, why, 0
	}
	defer func() {
		if thrown, ok := recover().(fault); ok {
			unit, why, at = api.Unit{}, thrown.why, thrown.at
		}
	}()
	all := joiner{h}.join(whole(t))
	return api.Unit{Dim: all.dim, Factor: all.factor, Offset: rat.Of(0)}, api.OK, 0
}

// amount: so much of the coherent unit of a dimension.
type amount struct {
	factor api.Rat
	dim    api.Dim
}

// joiner: makes units one, node after node, in their order.
type joiner struct {
	house *house.House
}

// join: what a node comes to, behind its kids; what can not be is thrown.
func (j joiner) join(n node) amount {
	var of []amount
	for _, kid := range n.kids() {
		of = append(of, j.join(kid))
	}
	all, e := j.joined(n, of)
	if e != api.OK {
		panic(fault{e, n.at()})
	}
	return all
}

// joined: what a node comes to, by what its kids come to.
func (j joiner) joined(n node, of []amount) (all amount, e api.Errno) {
	large := api.OK
	switch x := n.(type) {
	case number:
		all.factor, e = counted(x.text)
	case name:
		all, e = j.named(x.text)
	case product:
		all.dim, e = dim.Mul(of[0].dim, of[1].dim)
		all.factor, large = rat.Mul(of[0].factor, of[1].factor)
	case quotient:
		all.dim, e = dim.Quo(of[0].dim, of[1].dim)
		all.factor, large = rat.Quo(of[0].factor, of[1].factor)
	case power:
		exp, _ := Power(x.text)
		all.dim, e = dim.Pow(of[0].dim, exp)
		all.factor, large = rat.Pow(of[0].factor, exp)
	default:
		e = api.ErrForm
	}
	if e == api.OK { // dimensions go ahead of numbers
		e = large
	}
	return all, e
}

// counted: a number by which a unit may be multiplied.
func counted(text string) (api.Rat, api.Errno) {
	value, e, _ := rat.Parse(text) // which takes no parentheses
	if e != api.OK || value == rat.Of(0) {
		return api.Rat{}, api.ErrForm
	}
	return value, api.OK
}

// named: a unit that is no scale.
func (j joiner) named(text string) (amount, api.Errno) {
	u, e := j.house.Unit(text)
	switch {
	case e != api.OK:
		return amount{}, e
	case scale(u):
		return amount{}, api.ErrAffine
	}
	return amount{u.Factor, u.Dim}, api.OK
}
