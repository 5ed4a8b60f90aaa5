package exact

import (
	"cubit/api"
	"cubit/rat"
)

// arithmetic: of numbers without a bound on their digits, as what is reckoned within a node may be large, and come back.
type arithmetic interface {
	neg(a rat.Frac) rat.Frac
	size(a rat.Frac) rat.Frac
	add(a, b rat.Frac) rat.Frac
	sub(a, b rat.Frac) rat.Frac
	mul(a, b rat.Frac) rat.Frac
	quo(a, b rat.Frac) (rat.Frac, api.Errno)
	pow(a rat.Frac, n int) (rat.Frac, api.Errno)
	root(a rat.Frac) (rat.Frac, api.Errno)
}

// fractions: the arithmetic of rational numbers.
type fractions struct{}

func (fractions) neg(a rat.Frac) rat.Frac    { return a.Neg() }
func (fractions) add(a, b rat.Frac) rat.Frac { return a.Add(b) }
func (fractions) sub(a, b rat.Frac) rat.Frac { return a.Sub(b) }
func (fractions) mul(a, b rat.Frac) rat.Frac { return a.Mul(b) }

func (fractions) size(a rat.Frac) rat.Frac {
	if a.Sign() < 0 {
		return a.Neg()
	}
	return a
}

func (fractions) quo(a, b rat.Frac) (rat.Frac, api.Errno) {
	if b.Sign() == 0 {
		return rat.Frac{}, api.ErrZero
	}
	return a.Quo(b), api.OK
}

func (fractions) pow(a rat.Frac, n int) (rat.Frac, api.Errno) { return a.Pow(n) }

func (fractions) root(a rat.Frac) (rat.Frac, api.Errno) {
	root, is := a.SquareRoot()
	if !is {
		return rat.Frac{}, api.ErrDomain
	}
	return root, api.OK
}

// from: what x of a unit are, in the coherent unit of its dimension.
func from(in arithmetic, x rat.Frac, u api.Unit) rat.Frac {
	factor, offset := numbersOf(u)
	return in.add(in.mul(x, factor), offset)
}

// to: how many of a unit x are, which is told in the coherent unit of its dimension.
func to(in arithmetic, x rat.Frac, u api.Unit) (rat.Frac, api.Errno) {
	factor, offset := numbersOf(u)
	return in.quo(in.sub(x, offset), factor)
}

func numbersOf(u api.Unit) (factor, offset rat.Frac) {
	factor, _ = rat.Read(u.Factor)
	offset, _ = rat.Read(u.Offset)
	return factor, offset
}
