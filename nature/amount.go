package nature

import (
	"cubit/api"
	"cubit/dim"
	"cubit/rat"
	"cubit/si"
)

// The coherent base units, in the order of a dimension's exponents.
const (
	metre = iota
	kilogram
	second
	ampere
	kelvin
	mole
)

// number: num by den, times ten to the power ten; small enough that lowest terms need not be come to before it is told.
type number struct {
	num, den int64
	ten      int
}

func (a number) times(b number) number { return number{a.num * b.num, a.den * b.den, a.ten + b.ten} }
func (a number) by(b number) number    { return number{a.num * b.den, a.den * b.num, a.ten - b.ten} }

func (a number) told() api.Rat {
	quotient, _ := rat.Quo(rat.Of(a.num), rat.Of(a.den)) // den is never 0
	power, _ := rat.Pow(rat.Of(10), a.ten)
	r, _ := rat.Mul(quotient, power)
	return r
}

// amount: what a constant is made as, in whole numbers: its value and its spread, of the coherent unit of a dimension.
type amount struct {
	value, spread number
	dim           api.Dim
}

// exactly: digits times ten to a power, without spread and dimension.
func exactly(digits int64, ten int) amount {
	return measured(number{digits, 1, ten}, number{0, 1, 0})
}

func measured(value, spread number) amount {
	return amount{value: value, spread: spread}
}

// one: of a coherent base unit.
func one(part int) amount {
	a := exactly(1, 0)
	a.dim[part] = 1
	return a
}

// derived: one of a unit of si. Those that stand here are coherent.
func derived(unit string) amount {
	u, _ := si.Find(unit)
	a := exactly(1, 0)
	a.dim = u.Dim
	return a
}

// times: the product; b must be exact, so that the spread is that of a, so many times.
func (a amount) times(b amount) amount {
	product, _ := dim.Mul(a.dim, b.dim) // all exponents are small
	return amount{a.value.times(b.value), a.spread.times(b.value), product}
}

// by: the quotient; b must be exact.
func (a amount) by(b amount) amount {
	quotient, _ := dim.Quo(a.dim, b.dim)
	return amount{a.value.by(b.value), a.spread.by(b.value), quotient}
}
