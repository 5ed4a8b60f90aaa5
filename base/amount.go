package base

import (
	"cubit/api"
	"cubit/dim"
	"cubit/rat"
)

// The exponents' places in a dimension.
const (
	length = iota
	mass
	time
	current
	temperature
	substance
	intensity
	information
)

// amount: what a unit is made as, in whole numbers: num by den of the coherent unit of a dimension. It becomes a rational number when that is asked for.
type amount struct {
	dim      api.Dim
	num, den int64
}

func number(n int64) amount { return amount{num: n, den: 1} }

// fixed: a constant by which units are defined, counted so that it is 1: its own number cancels out in each unit that it defines.
func fixed(d api.Dim) amount { return amount{dim: d, num: 1, den: 1} }

func (a amount) times(b amount) amount {
	product, _ := dim.Mul(a.dim, b.dim) // all exponents are small
	return amount{dim: product, num: a.num * b.num, den: a.den * b.den}
}

func (a amount) by(b amount) amount {
	quotient, _ := dim.Quo(a.dim, b.dim) // likewise
	return amount{dim: quotient, num: a.num * b.den, den: a.den * b.num}
}

// joule: of the coherent units, so that of mass it takes a thousand grams.
func joule(metre, gram, second amount) amount {
	newton := number(1000).times(gram).times(metre).by(second).by(second)
	return newton.times(metre)
}

func (a amount) factor() api.Rat {
	r, _ := rat.Quo(rat.Of(a.num), rat.Of(a.den)) // den is never 0
	return r
}
