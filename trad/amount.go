package trad

// The units of other packages of which those of old are made.
const (
	metre = iota
	gram
	second
	pascal
	joule
)

// amount: what a unit is made as, in whole numbers: num by den, in lowest terms, of a product of units of other packages, each to its exponent. Its dimension and its factor are worked out when they are asked for.
type amount struct {
	exps     [5]int
	num, den int64
}

// one: of a unit of another package.
func one(part int) amount {
	a := amount{num: 1, den: 1}
	a.exps[part] = 1
	return a
}

// kilogram: of grams, since base has no unit with a prefix.
func kilogram() amount {
	grams := one(gram).multiple
	return grams(1000, 1)
}

// multiple: num by den of it. What cancels out is taken away ahead of each product, as those of psi would leave their type.
func (a amount) multiple(num, den int64) amount {
	num, den = lowest(num, den)
	num, a.den = lowest(num, a.den)
	a.num, den = lowest(a.num, den)
	a.num, a.den = a.num*num, a.den*den
	return a
}

func (a amount) times(b amount) amount {
	for part, exp := range b.exps {
		a.exps[part] += exp
	}
	return a.multiple(b.num, b.den)
}

func (a amount) by(b amount) amount {
	for part, exp := range b.exps {
		a.exps[part] -= exp
	}
	return a.multiple(b.den, b.num)
}

// lowest divides both, which are above 0, by what they share.
func lowest(a, b int64) (int64, int64) {
	shared, rest := a, b
	for rest != 0 {
		shared, rest = rest, shared%rest
	}
	return a / shared, b / shared
}
