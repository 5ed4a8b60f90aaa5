package si

// The base units of which all others are made, in the order in which these are told; that of mass is the coherent one.
const (
	metre = iota
	kilogram
	second
	ampere
	kelvin
	mole
	candela
	bit
)

// amount: what a unit is made as, in whole numbers: num by den of a product of base units, each to its exponent. Its dimension and its factor are worked out when they are asked for.
type amount struct {
	exps     [8]int
	num, den int64
}

func number(n int64) amount { return amount{num: n, den: 1} }

// one: of a base unit.
func one(part int) amount {
	a := number(1)
	a.exps[part] = 1
	return a
}

func (a amount) times(b amount) amount {
	for part, exp := range b.exps {
		a.exps[part] += exp
	}
	a.num, a.den = a.num*b.num, a.den*b.den
	return a
}

func (a amount) by(b amount) amount {
	for part, exp := range b.exps {
		a.exps[part] -= exp
	}
	a.num, a.den = a.num*b.den, a.den*b.num
	return a
}

// group: the units that one variable of the start makes, at most eight of them, as they come.
type group struct {
	units [8]amount
	count int
}

// grouped: what makes a group puts one unit behind the other, and goes on with what it has put, since units of a group are made out of one another.
func grouped(fill func(put func(amount) amount)) group {
	var g group
	fill(func(a amount) amount {
		g.units[g.count] = a
		g.count++
		return a
	})
	return g
}
