package trad

import (
	"cubit/api"
	"cubit/base"
	"cubit/dim"
	"cubit/rat"
	"cubit/si"
)

// parts: the units of other packages of which those of old are made.
func parts() [5]api.Unit {
	var l [5]api.Unit
	l[metre], _ = base.Find("metre")
	l[gram], _ = base.Find("gram")
	l[second], _ = base.Find("second")
	l[pascal], _ = si.Find("pascal")
	l[joule], _ = si.Find("joule")
	return l
}

// dim: the product of those of its parts.
func (a amount) dim(of [5]api.Unit) api.Dim {
	product := api.Dim{}
	for part, exp := range a.exps {
		power, _ := dim.Pow(of[part].Dim, exp) // all exponents are small
		product, _ = dim.Mul(product, power)
	}
	return product
}

// factor: its own number times the product of those of its parts.
func (a amount) factor(of [5]api.Unit) api.Rat {
	product, _ := rat.Quo(rat.Of(a.num), rat.Of(a.den)) // den is never 0
	for part, exp := range a.exps {
		power, _ := rat.Pow(of[part].Factor, exp)
		product, _ = rat.Mul(product, power)
	}
	return product
}
