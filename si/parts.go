package si

import (
	"cubit/api"
	"cubit/base"
	"cubit/dim"
	"cubit/prefix"
	"cubit/rat"
)

// parts: the base units of which all others are made.
func parts() [8]api.Unit {
	var l [8]api.Unit
	for part, symbol := range [8]string{"m", "g", "s", "A", "K", "mol", "cd", "b"} {
		l[part], _ = base.Find(symbol)
	}
	l[kilogram] = thousand(l[kilogram])
	return l
}

// thousand: the gram is the base unit by its name, but a thousand of it are the coherent one.
func thousand(u api.Unit) api.Unit {
	kilo, _ := prefix.Find("kilo")
	u.Name, u.Symbol = kilo.Name+u.Name, kilo.Symbol+u.Symbol
	u.Factor, _ = rat.Mul(kilo.Factor, u.Factor)
	return u
}

// dim: the product of those of its parts.
func (a amount) dim(of [8]api.Unit) api.Dim {
	product := api.Dim{}
	for part, exp := range a.exps {
		power, _ := dim.Pow(of[part].Dim, exp) // all exponents are small
		product, _ = dim.Mul(product, power)
	}
	return product
}

// factor: its own number times the product of those of its parts.
func (a amount) factor(of [8]api.Unit) api.Rat {
	product, _ := rat.Quo(rat.Of(a.num), rat.Of(a.den)) // den is never 0
	for part, exp := range a.exps {
		power, _ := rat.Pow(of[part].Factor, exp)
		product, _ = rat.Mul(product, power)
	}
	return product
}

// made: the parts, without those that do not stand in it.
func (a amount) made(of [8]api.Unit) []api.Part {
	var l []api.Part
	for part, exp := range a.exps {
		if exp != 0 {
			l = append(l, api.Part{Name: of[part].Symbol, Exp: exp})
		}
	}
	return l
}
