package rat

import (
	"cubit/api"
	"cubit/nat"
)

// Simple: the simplest number of an interval.
func Simple(low, high api.Rat) (api.Rat, api.Errno) {
	f, g, e := readTwo(low, high)
	if e != api.OK {
		return api.Rat{}, e
	}
	if g.Cmp(f) < 0 {
		return api.Rat{}, api.ErrBelow
	}
	if f.Sign() <= 0 && g.Sign() >= 0 {
		return Of(0), api.OK
	}
	if f.below {
		return simplest(g.Neg(), f.Neg()).Neg().Tell()
	}
	return simplest(f, g).Tell()
}

// simplest: of two numbers above 0, the second one not below the first one.
//
// As long as both have the same whole part, so has every number between them, and what is left, turned round, lies between the others' rests, turned round. Where they part, the least whole number from the lower one on is the simplest; it has the least Num too, so that turning it round again keeps it so.
func simplest(low, high Frac) Frac {
	var terms []nat.Big
split:
	for {
		least, rest := low.num.DivMod(low.den)
		most, over := high.num.DivMod(high.den)
		switch {
		case rest.IsZero():
			terms = append(terms, least)
			break split
		case least.Cmp(most) < 0:
			terms = append(terms, least.Add(nat.BigOf(1)))
			break split
		}
		terms = append(terms, least)
		low, high = Frac{num: high.den, den: over}, Frac{num: low.den, den: rest}
	}
	num, den, _ := unfold(terms[1:])
	return Frac{num: terms[0], den: nat.BigOf(1)}.Add(Frac{num: num, den: den})
}

// unfold: 1/(c1 + 1/(c2 + ..)), of none 0, in lowest terms; false, if its den would be too large.
func unfold(terms []nat.Big) (num, den nat.Big, right bool) {
	num, den = nat.Big{}, nat.BigOf(1)
	numLast, denLast := nat.BigOf(1), nat.Big{}
	for _, c := range terms {
		num, numLast = num.Mul(c).Add(numLast), num
		den, denLast = den.Mul(c).Add(denLast), den
		// It never falls: what is too large stays so, however long the chain is.
		if den.Len() > api.MaxDigits {
			return nat.Big{}, nat.Big{}, false
		}
	}
	return num, den, true
}

// Chain: the continued fraction.
func Chain(a api.Rat) ([]string, api.Errno) {
	f, right := Read(a)
	if !right {
		return nil, api.ErrForm
	}
	size, rest := f.floor()
	chain := []string{signed(f.below, size.Text())}
	for den := f.den; !rest.IsZero(); {
		often, left := den.DivMod(rest)
		chain = append(chain, often.Text())
		den, rest = rest, left
	}
	return chain, api.OK
}

// Back: of a continued fraction.
func Back(l []string) (api.Rat, api.Errno) {
	if len(l) == 0 {
		return api.Rat{}, api.ErrForm
	}
	first, right := Read(api.Rat{Num: l[0], Den: "1"})
	if !right {
		return api.Rat{}, api.ErrForm
	}
	terms := make([]nat.Big, len(l)-1)
	for i, c := range l[1:] {
		if !nat.Right(c) || c == "0" {
			return api.Rat{}, api.ErrForm
		}
		terms[i] = nat.BigText(c)
	}
	num, den, right := unfold(terms)
	if !right {
		return api.Rat{}, api.ErrLarge
	}
	return first.Add(Frac{num: num, den: den}).Tell()
}
