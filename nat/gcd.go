package nat

// Gcd: the greatest number that divides both; of 0 and another one that one.
//
// It is Euclid's, but many of its steps at a time are found from the first digits of both alone (Lehmer; Knuth 4.5.2, algorithm L), and done on the whole numbers together.
func (b Big) Gcd(c Big) Big {
	if b.Cmp(c) < 0 {
		b, c = c, b
	}
	for len(c.limbs) > 2 {
		if s := manySteps(b, c); s.bc != 0 {
			b, c = s.use(b, c)
		} else {
			_, left := b.DivMod(c)
			b, c = c, left
		}
	}
	if c.IsZero() {
		return b
	}
	_, left := b.DivMod(c)
	return BigOf(gcdSmall(c.small(), left.small()))
}

func gcdSmall(a, b uint64) uint64 {
	for b > 0 {
		a, b = b, a%b
	}
	return a
}

// small: the number of at most two limbs.
func (b Big) small() uint64 {
	n := uint64(0)
	for i := len(b.limbs) - 1; i >= 0; i-- {
		n = n*limbBase + b.limbs[i]
	}
	return n
}

// steps of Euclid's: of b and c they make bb b + bc c, and cb b + cc c. None of the four is above the base in size: each is below what is left of the 18 digits, as both ends have the same quotient, and times that at most 10^18.
type steps struct {
	bb, bc, cb, cc int64
}

// manySteps tells as many steps as the first 18 digits of b, and the digits of c at their places, make sure of: perhaps none (then bc is 0). c is not above b, and has more than two limbs.
func manySteps(b, c Big) steps {
	top := len(b.limbs) - 1
	up := tenTo(limbDigits*len(b.limbs) - b.Len())
	x, y := int64(b.first(top, up)), int64(c.first(top, up))
	s := steps{1, 0, 0, 1}
	for y+s.cb != 0 && y+s.cc != 0 {
		// What was cut off makes each number up to one greater: where both ends of that give one quotient, it is right.
		q := (x + s.bb) / (y + s.cb)
		if q != (x+s.bc)/(y+s.cc) {
			break
		}
		s = steps{s.cb, s.cc, s.bb - q*s.cb, s.bc - q*s.cc}
		x, y = y, x-q*y
	}
	return s
}

// first: 18 digits, the first ones of a number with top + 1 limbs whose first limb, times up, has nine digits.
func (b Big) first(top int, up uint64) uint64 {
	head := b.limb(top)*limbBase + b.limb(top-1)
	return head*up + b.limb(top-2)/(limbBase/up)
}

func (b Big) limb(i int) uint64 {
	if i >= len(b.limbs) {
		return 0
	}
	return b.limbs[i]
}

func (s steps) use(b, c Big) (Big, Big) {
	return together(b, c, s.bb, s.bc), together(b, c, s.cb, s.cc)
}

// together: times b and more times c; it is not below 0, and not above b.
func together(b, c Big, times, more int64) Big {
	limbs := make([]uint64, len(b.limbs))
	carry := int64(0)
	for i := range limbs {
		// The square of the base keeps it from falling below 0, and goes out of what is carried again.
		carry += limbBase*limbBase + times*int64(b.limbs[i]) + more*int64(c.limb(i))
		limbs[i] = uint64(carry) % limbBase
		carry = int64(uint64(carry)/limbBase) - limbBase
	}
	return trim(limbs)
}
