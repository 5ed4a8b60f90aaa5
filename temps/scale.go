package temps

import (
	"cubit/api"
	"cubit/rat"
)

// ratio: a rational number in whole numbers, small enough that lowest terms need not be come to before it is told.
type ratio struct{ num, den int64 }

func (a ratio) plus(b ratio) ratio  { return ratio{a.num*b.den + b.num*a.den, a.den * b.den} }
func (a ratio) less(b ratio) ratio  { return a.plus(ratio{-b.num, b.den}) }
func (a ratio) times(b ratio) ratio { return ratio{a.num * b.num, a.den * b.den} }

func (a ratio) told() api.Rat {
	r, _ := rat.Quo(rat.Of(a.num), rat.Of(a.den)) // den is never 0
	return r
}

func (a ratio) frac() rat.Frac {
	f, _ := rat.Read(a.told())
	return f
}

// scale: what a unit of temperature is made as: of x of it, factor times x, and offset, are kelvins.
type scale struct{ factor, offset ratio }

func (s scale) kelvins(x ratio) ratio { return s.factor.times(x).plus(s.offset) }
