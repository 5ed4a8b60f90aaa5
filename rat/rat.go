// Package rat is layer 2: exact rational numbers. See shared/doc/02-rat.md.
//
// Its functions take and answer numbers of at most api.MaxDigits digits above and below. What is reckoned on the way has no such bound: for that there is Frac.
package rat

import (
	"cubit/api"
	"cubit/nat"
)

// Right: is it in its one form?
func Right(r api.Rat) bool {
	_, right := Read(r)
	return right
}

// New: of two texts, the first one perhaps with - ahead.
func New(num, den string) (api.Rat, api.Errno) {
	below, digits := cutSign(num)
	if !nat.Right(digits) || !nat.Right(den) {
		return api.Rat{}, api.ErrForm
	}
	if den == "0" {
		return api.Rat{}, api.ErrZero
	}
	return Ratio(below, nat.BigText(digits), nat.BigText(den)).Tell()
}

// Of: of a number.
func Of(n int64) api.Rat {
	size := uint64(n)
	if n < 0 {
		size = -size // also of the least int64, whose size no int64 is
	}
	return api.Rat{Num: signed(n < 0, nat.Of(size)), Den: "1"}
}

// Add: the sum. Sub: the difference. Mul: the product.
func Add(a, b api.Rat) (api.Rat, api.Errno) { return ofTwo(a, b, Frac.Add) }
func Sub(a, b api.Rat) (api.Rat, api.Errno) { return ofTwo(a, b, Frac.Sub) }
func Mul(a, b api.Rat) (api.Rat, api.Errno) { return ofTwo(a, b, Frac.Mul) }

func ofTwo(a, b api.Rat, do func(f, g Frac) Frac) (api.Rat, api.Errno) {
	f, g, e := readTwo(a, b)
	if e != api.OK {
		return api.Rat{}, e
	}
	return do(f, g).Tell()
}

// Quo: the quotient.
func Quo(a, b api.Rat) (api.Rat, api.Errno) {
	f, g, e := readTwo(a, b)
	if e != api.OK {
		return api.Rat{}, e
	}
	if g.Sign() == 0 {
		return api.Rat{}, api.ErrZero
	}
	return f.Quo(g).Tell()
}

// Neg: what is opposite.
func Neg(a api.Rat) (api.Rat, api.Errno) {
	f, right := Read(a)
	if !right {
		return api.Rat{}, api.ErrForm
	}
	return f.Neg().Tell()
}

// Inv: 1 divided by it.
func Inv(a api.Rat) (api.Rat, api.Errno) {
	f, right := Read(a)
	if !right {
		return api.Rat{}, api.ErrForm
	}
	if f.Sign() == 0 {
		return api.Rat{}, api.ErrZero
	}
	return f.Inv().Tell()
}

// Pow: a to the power n.
func Pow(a api.Rat, n int) (api.Rat, api.Errno) {
	f, right := Read(a)
	if !right {
		return api.Rat{}, api.ErrForm
	}
	if n < -api.MaxPow || n > api.MaxPow {
		return api.Rat{}, api.ErrArg
	}
	power, e := f.Pow(n)
	if e != api.OK {
		return api.Rat{}, e
	}
	return power.Tell()
}

// Sum: of any number of them.
func Sum(l ...api.Rat) (api.Rat, api.Errno) {
	all, e := readAll(l)
	if e != api.OK {
		return api.Rat{}, e
	}
	return fold(all, plus).Tell()
}

// Prod: of any number of them.
func Prod(l ...api.Rat) (api.Rat, api.Errno) {
	all, e := readAll(l)
	if e != api.OK {
		return api.Rat{}, e
	}
	for _, f := range all {
		if f.Sign() == 0 {
			return Of(0), api.OK
		}
	}
	if farFromOne(all) {
		return api.Rat{}, api.ErrLarge
	}
	return fold(all, times).Tell()
}

// farFromOne: is the product of numbers other than 0 so great, or so small, by their digits alone, that it can not be right? (Long products of great numbers need not be worked out for that.)
func farFromOne(l []Frac) bool {
	least, most := 0, 0 // the product's size is above ten to the least, and below ten to the most
	for _, f := range l {
		least += f.num.Len() - 1 - f.den.Len()
		most += f.num.Len() - f.den.Len() + 1
	}
	return least >= api.MaxDigits || most <= -api.MaxDigits
}

// Cmp: -1, 0, 1.
func Cmp(a, b api.Rat) (int, api.Errno) {
	f, g, e := readTwo(a, b)
	if e != api.OK {
		return 0, e
	}
	return f.Cmp(g), api.OK
}

// Sign: -1, 0, 1: against 0.
func Sign(a api.Rat) (int, api.Errno) {
	f, right := Read(a)
	if !right {
		return 0, api.ErrForm
	}
	return f.Sign(), api.OK
}

// Floor: the greatest whole number not above it.
func Floor(a api.Rat) (api.Rat, api.Errno) {
	f, right := Read(a)
	if !right {
		return api.Rat{}, api.ErrForm
	}
	return f.Floor().Tell()
}

// Round: to so many places behind the point.
func Round(a api.Rat, places int) (api.Rat, api.Errno) {
	f, right := Read(a)
	if !right {
		return api.Rat{}, api.ErrForm
	}
	if places < -api.MaxDigits || places > api.MaxDigits {
		return api.Rat{}, api.ErrArg
	}
	num, den := f.nearest(places), nat.BigOf(1)
	if places < 0 {
		num = num.Shift(-places)
	} else {
		den = den.Shift(places)
	}
	return Ratio(f.below, num, den).Tell()
}
