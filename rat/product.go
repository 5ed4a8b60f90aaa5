package rat

import (
	"slices"

	"cubit/api"
	"cubit/nat"
)

// Power: a number above 0, and to which power it stands in a product: at most MaxPow, both ways.
type Power struct {
	Of  Frac
	Exp int
}

// Product: of powers: ErrLarge, if it is not right. What is reckoned on the way stays small: powers, which may be great beyond all bounds, are come to only where nothing of them is cancelled any more.
func Product(l []Power) (Frac, api.Errno) {
	var b basis
	for _, r := range rootsOf(l) {
		b.put(r)
	}
	num, right := b.product(1)
	den, rightToo := b.product(-1)
	if !right || !rightToo {
		return Frac{}, api.ErrLarge
	}
	return Frac{num: num, den: den}, api.OK
}

// root: a natural number, and to which power it stands in a product.
type root struct {
	of  nat.Big
	exp int
}

// rootsOf: of all numbers, each once. What cancels out as it stands needs no gcd.
func rootsOf(l []Power) []root {
	var all []root
	add := func(of nat.Big, exp int) {
		at := slices.IndexFunc(all, func(r root) bool { return r.of.Cmp(of) == 0 })
		if at < 0 {
			all = append(all, root{of, exp})
		} else {
			all[at].exp += exp
		}
	}
	for _, p := range l {
		add(p.Of.num, p.Exp)
		add(p.Of.den, -p.Exp)
	}
	return all
}

// basis: the product of powers of natural numbers no two of which share anything: so nothing in it can be cancelled.
type basis []root

// put takes one more into the product.
//
// What it shares with one that is there is taken out of both, and stands by itself, with both powers. These pieces, each smaller than what it was taken out of, are put in again.
func (b *basis) put(r root) {
	for wait := []root{r}; len(wait) > 0; {
		r := wait[len(wait)-1]
		wait = wait[:len(wait)-1]
		if r.exp == 0 {
			continue
		}
		for i := 0; i < len(*b) && !r.of.IsOne(); i++ {
			there := &(*b)[i]
			rest, often := cutOut(r.of, there.of)
			r.of = rest
			there.exp += often * r.exp
			shared := rest.Gcd(there.of)
			if shared.IsOne() {
				continue
			}
			left, _ := there.of.DivMod(shared)
			r.of, _ = rest.DivMod(shared)
			wait = append(wait, root{left, there.exp}, root{shared, there.exp + r.exp})
			(*b)[i] = (*b)[len(*b)-1]
			*b = (*b)[:len(*b)-1]
			i--
		}
		if !r.of.IsOne() {
			*b = append(*b, r)
		}
	}
}

// cutOut: what is left of a number, once another one, above 1, is divided out of it as often as it goes, and how often that is. The squares find that in few steps.
func cutOut(of, by nat.Big) (nat.Big, int) {
	rest, left := of.DivMod(by)
	if !left.IsZero() {
		return of, 0
	}
	rest, twice := cutOut(rest, by.Mul(by))
	if more, left := rest.DivMod(by); left.IsZero() {
		return more, 2*twice + 2
	}
	return rest, 2*twice + 1
}

// product: of the powers above 0 (sign 1), or of those below 0, turned round (sign -1); false, if it is too large.
func (b basis) product(sign int) (nat.Big, bool) {
	product := nat.BigOf(1)
	for _, r := range b {
		exp := r.exp * sign
		if exp <= 0 {
			continue
		}
		// No number here is below 2: what is too large by its digits alone is not worked out.
		if exp > 4*api.MaxDigits || (r.of.Len()-1)*exp >= api.MaxDigits {
			return nat.Big{}, false
		}
		product = product.Mul(r.of.Pow(exp))
		if product.Len() > api.MaxDigits {
			return nat.Big{}, false
		}
	}
	return product, true
}
