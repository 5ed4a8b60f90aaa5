package rat

import (
	"cubit/api"
	"cubit/nat"
)

// Frac is a rational number in lowest terms, without a bound on its digits: for what is reckoned on the way, here and in the layers above. It is made by Read or Ratio. No call changes one.
type Frac struct {
	below    bool // below 0
	num, den nat.Big
}

// Read: of a number, if that is right.
func Read(r api.Rat) (Frac, bool) {
	below, digits := cutSign(r.Num)
	if !nat.Right(digits) || !nat.Right(r.Den) || below && digits == "0" || r.Den == "0" {
		return Frac{}, false
	}
	f := Frac{below, nat.BigText(digits), nat.BigText(r.Den)}
	if !f.num.Gcd(f.den).IsOne() {
		return Frac{}, false
	}
	return f, true
}

func readTwo(a, b api.Rat) (f, g Frac, e api.Errno) {
	f, right := Read(a)
	g, rightToo := Read(b)
	if !right || !rightToo {
		return Frac{}, Frac{}, api.ErrForm
	}
	return f, g, api.OK
}

func readAll(l []api.Rat) ([]Frac, api.Errno) {
	all := make([]Frac, len(l))
	for i, r := range l {
		f, right := Read(r)
		if !right {
			return nil, api.ErrForm
		}
		all[i] = f
	}
	return all, api.OK
}

// Ratio: num divided by den, which must not be 0; with below, what is opposite.
func Ratio(below bool, num, den nat.Big) Frac {
	num, den = lowest(num, den)
	return Frac{below && !num.IsZero(), num, den}
}

func whole(n uint64) Frac { return Frac{num: nat.BigOf(n), den: nat.BigOf(1)} }

// Tell: as a number, if that is right: ErrLarge.
func (f Frac) Tell() (api.Rat, api.Errno) {
	if f.num.Len() > api.MaxDigits || f.den.Len() > api.MaxDigits {
		return api.Rat{}, api.ErrLarge
	}
	return api.Rat{Num: signed(f.below, f.num.Text()), Den: f.den.Text()}, api.OK
}

// signed: digits, with - ahead if they are below 0.
func signed(below bool, digits string) string {
	if below {
		return "-" + digits
	}
	return digits
}

// Sign: -1, 0, 1.
func (f Frac) Sign() int {
	switch {
	case f.below:
		return -1
	case f.num.IsZero():
		return 0
	}
	return 1
}

// Neg: what is opposite.
func (f Frac) Neg() Frac {
	return Frac{!f.below && !f.num.IsZero(), f.num, f.den}
}

// Inv: 1 divided by f, which must not be 0.
func (f Frac) Inv() Frac {
	return Frac{f.below, f.den, f.num}
}

// Add: the sum.
func (f Frac) Add(g Frac) Frac {
	// Of the product of both Den only what they share can share anything with the new Num: the gcd is of small numbers.
	shared := f.den.Gcd(g.den)
	fRest, _ := f.den.DivMod(shared)
	gRest, _ := g.den.DivMod(shared)
	below, num := addSigned(f.below, f.num.Mul(gRest), g.below, g.num.Mul(fRest))
	num, shared = lowest(num, shared)
	if num.IsZero() {
		return whole(0)
	}
	return Frac{below, num, shared.Mul(fRest).Mul(gRest)}
}

// addSigned: the sum of two numbers, each with its sign.
func addSigned(aBelow bool, a nat.Big, bBelow bool, b nat.Big) (bool, nat.Big) {
	switch {
	case aBelow == bBelow:
		return aBelow, a.Add(b)
	case a.Cmp(b) < 0:
		return bBelow, b.Sub(a)
	}
	return aBelow, a.Sub(b)
}

// Sub: the difference.
func (f Frac) Sub(g Frac) Frac { return f.Add(g.Neg()) }

// Mul: the product.
func (f Frac) Mul(g Frac) Frac { return times(f, g) }

// Quo: the quotient. g must not be 0.
func (f Frac) Quo(g Frac) Frac { return times(f, g.Inv()) }

// Cmp: -1, 0, 1.
func (f Frac) Cmp(g Frac) int {
	if f.Sign() != g.Sign() {
		if f.Sign() < g.Sign() {
			return -1
		}
		return 1
	}
	if f.num.Cmp(g.num) == 0 && f.den.Cmp(g.den) == 0 {
		return 0 // without products: where long numbers are held against one another, they are mostly the same
	}
	order := f.num.Mul(g.den).Cmp(g.num.Mul(f.den))
	if f.below {
		return -order
	}
	return order
}

// floor: the greatest whole number not above f, its sign aside, and how far f is above it, in parts of den.
func (f Frac) floor() (size, rest nat.Big) {
	size, rest = f.num.DivMod(f.den)
	if f.below && !rest.IsZero() {
		return size.Add(nat.BigOf(1)), f.den.Sub(rest)
	}
	return size, rest
}

// nearest: the whole number nearest to the size of f times ten to the places; of two the even one.
func (f Frac) nearest(places int) nat.Big {
	num, den := f.num, f.den
	if places < 0 {
		den = den.Shift(-places)
	} else {
		num = num.Shift(places)
	}
	size, rest := num.DivMod(den)
	half := rest.Add(rest).Cmp(den)
	if half > 0 || half == 0 && size.IsOdd() {
		return size.Add(nat.BigOf(1))
	}
	return size
}

// Shift: times ten to the power places, which may be below 0.
func (f Frac) Shift(places int) Frac {
	ten := whole(1)
	if places < 0 {
		ten.den = ten.den.Shift(-places)
	} else {
		ten.num = ten.num.Shift(places)
	}
	return times(f, ten)
}

// Places: how many digits its size has ahead of the point: the n for which it is from ten to the n - 1 on, and below ten to the n. f must not be 0.
func (f Frac) Places() int {
	// By their digits alone it is this n, or one more.
	n := f.num.Len() - f.den.Len()
	num, den := f.num, f.den
	if n < 0 {
		num = num.Shift(-n)
	} else {
		den = den.Shift(n)
	}
	if num.Cmp(den) < 0 {
		return n
	}
	return n + 1
}

// Round: the whole number nearest to it; of two the even one.
func (f Frac) Round() Frac {
	return Ratio(f.below, f.nearest(0), nat.BigOf(1))
}

// Floor: the greatest whole number not above it.
func (f Frac) Floor() Frac {
	size, _ := f.floor()
	return Ratio(f.below, size, nat.BigOf(1))
}

// Root: the greatest whole number whose square is not above f, which must not be below 0.
func (f Frac) Root() Frac {
	size, _ := f.floor()
	return Ratio(false, size.Root(2), nat.BigOf(1))
}

// SquareRoot: the number not below 0 whose square f is, if there is one.
func (f Frac) SquareRoot() (Frac, bool) {
	// The square of a number in lowest terms is in lowest terms: both parts must be squares.
	num, den := f.num.Root(2), f.den.Root(2)
	if f.below || num.Mul(num).Cmp(f.num) != 0 || den.Mul(den).Cmp(f.den) != 0 {
		return Frac{}, false
	}
	return Frac{num: num, den: den}, true
}

// Pow: to the power n, at most MaxPow both ways: ErrZero, if f is 0 and n below 0; ErrLarge, if it is not right.
func (f Frac) Pow(n int) (Frac, api.Errno) {
	if n < 0 {
		if f.Sign() == 0 {
			return Frac{}, api.ErrZero
		}
		f, n = f.Inv(), -n
	}
	// Powers of coprime numbers are coprime: each may be come to by itself.
	num, right := power(f.num, n)
	den, rightToo := power(f.den, n)
	if !right || !rightToo {
		return Frac{}, api.ErrLarge
	}
	return Frac{f.below && n%2 == 1, num, den}, api.OK
}

// power: false, if it is too large.
func power(of nat.Big, n int) (nat.Big, bool) {
	// A number of d digits is at least ten to the d - 1: what is surely too large need not be worked out.
	if (of.Len()-1)*n >= api.MaxDigits {
		return nat.Big{}, false
	}
	p := of.Pow(n)
	return p, p.Len() <= api.MaxDigits
}

// lowest divides both by what they share.
func lowest(num, den nat.Big) (nat.Big, nat.Big) {
	if num.IsOne() || den.IsOne() {
		return num, den
	}
	shared := num.Gcd(den)
	if shared.IsOne() {
		return num, den
	}
	num, _ = num.DivMod(shared)
	den, _ = den.DivMod(shared)
	return num, den
}

// plus: the sum.
func plus(l ...Frac) Frac {
	sum := whole(0)
	for _, f := range l {
		sum = sum.Add(f)
	}
	return sum
}

// times: the product. Each Num is held against each Den but its own, to which it is coprime already: so the product comes to lowest terms by gcds of its parts alone.
func times(l ...Frac) Frac {
	parts := make([]Frac, len(l))
	copy(parts, l)
next:
	for i := range parts {
		for j := range parts {
			if parts[i].num.IsOne() {
				continue next
			}
			if i != j {
				parts[i].num, parts[j].den = lowest(parts[i].num, parts[j].den)
			}
		}
	}
	product := whole(1)
	for _, p := range parts {
		product.below = product.below != p.below
		product.num = product.num.Mul(p.num)
		product.den = product.den.Mul(p.den)
	}
	product.below = product.below && !product.num.IsZero()
	return product
}

// fewAtOnce: so many are joined in one step; of a longer list first each half by itself, so that the great numbers which it may make come in few of the steps.
const fewAtOnce = 8

func fold(l []Frac, join func(l ...Frac) Frac) Frac {
	if len(l) <= fewAtOnce {
		return join(l...)
	}
	half := len(l) / 2
	return join(fold(l[:half], join), fold(l[half:], join))
}
