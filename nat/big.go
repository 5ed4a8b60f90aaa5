package nat

import (
	"cmp"
	"math/bits"
	"strconv"
)

// A limb holds nine decimal digits: texts are cut into limbs without reckoning, and a product of two limbs with what is carried stays within 64 bits.
const (
	limbDigits = 9
	limbBase   = 1_000_000_000
)

// Big is a natural number without a bound on its digits. Its zero value is 0. No call changes one.
type Big struct {
	limbs []uint64 // the least one first; the last one is not 0
}

// BigOf: of a number.
func BigOf(n uint64) Big {
	var limbs []uint64
	for ; n > 0; n /= limbBase {
		limbs = append(limbs, n%limbBase)
	}
	return Big{limbs}
}

// BigText: of decimal digits, however many; noughts ahead are taken, and no digits at all are 0.
func BigText(digits string) Big {
	limbs := make([]uint64, 0, len(digits)/limbDigits+1)
	for end := len(digits); end > 0; end -= limbDigits {
		limb := uint64(0)
		for i := max(end-limbDigits, 0); i < end; i++ {
			limb = limb*10 + uint64(digits[i]-'0')
		}
		limbs = append(limbs, limb)
	}
	return trim(limbs)
}

func trim(limbs []uint64) Big {
	n := len(limbs)
	for n > 0 && limbs[n-1] == 0 {
		n--
	}
	return Big{limbs[:n]}
}

// Text: its decimal digits.
func (b Big) Text() string {
	if b.IsZero() {
		return "0"
	}
	top := len(b.limbs) - 1
	text := make([]byte, 0, len(b.limbs)*limbDigits)
	text = strconv.AppendUint(text, b.limbs[top], 10)
	for i := top - 1; i >= 0; i-- {
		for unit := uint64(limbBase / 10); unit > 0; unit /= 10 {
			text = append(text, '0'+byte(b.limbs[i]/unit%10))
		}
	}
	return string(text)
}

// Len: how many decimal digits its text has.
func (b Big) Len() int {
	if b.IsZero() {
		return 1
	}
	top := len(b.limbs) - 1
	n := top * limbDigits
	for limb := b.limbs[top]; limb > 0; limb /= 10 {
		n++
	}
	return n
}

// IsZero, IsOne, IsOdd: is it?
func (b Big) IsZero() bool { return len(b.limbs) == 0 }
func (b Big) IsOne() bool  { return len(b.limbs) == 1 && b.limbs[0] == 1 }
func (b Big) IsOdd() bool  { return len(b.limbs) > 0 && b.limbs[0]%2 == 1 }

// Cmp: -1, 0, 1.
func (b Big) Cmp(c Big) int {
	if order := cmp.Compare(len(b.limbs), len(c.limbs)); order != 0 {
		return order
	}
	for i := len(b.limbs) - 1; i >= 0; i-- {
		if order := cmp.Compare(b.limbs[i], c.limbs[i]); order != 0 {
			return order
		}
	}
	return 0
}

// Add: the sum.
func (b Big) Add(c Big) Big {
	if len(b.limbs) < len(c.limbs) {
		b, c = c, b
	}
	sum := make([]uint64, len(b.limbs)+1)
	copy(sum, b.limbs)
	carry := uint64(0)
	for i := 0; i < len(c.limbs) || carry > 0; i++ {
		carry += sum[i]
		if i < len(c.limbs) {
			carry += c.limbs[i]
		}
		sum[i] = carry % limbBase
		carry /= limbBase
	}
	return trim(sum)
}

// Sub: the difference. c must not be above b.
func (b Big) Sub(c Big) Big {
	rest := make([]uint64, len(b.limbs))
	copy(rest, b.limbs)
	takeAway(rest, c.limbs, 1)
	return trim(rest)
}

// takeAway takes so many times what is in by off from, and tells what is missing then at its end: 0, if it was there.
func takeAway(from, by []uint64, times uint64) uint64 {
	missing := uint64(0)
	for i := range from {
		if i >= len(by) && missing == 0 {
			break
		}
		if i < len(by) {
			missing += times * by[i]
		}
		limb := missing % limbBase
		missing /= limbBase
		if from[i] < limb {
			from[i] += limbBase
			missing++
		}
		from[i] -= limb
	}
	return missing
}

// Mul: the product.
func (b Big) Mul(c Big) Big {
	product := make([]uint64, len(b.limbs)+len(c.limbs))
	for i, x := range b.limbs {
		if x == 0 {
			continue
		}
		carry := uint64(0)
		for j, y := range c.limbs {
			carry += product[i+j] + x*y
			product[i+j] = carry % limbBase
			carry /= limbBase
		}
		product[i+len(c.limbs)] = carry
	}
	return trim(product)
}

// Shift: times ten to the power places, which must not be below 0.
func (b Big) Shift(places int) Big {
	if b.IsZero() {
		return b
	}
	whole := places / limbDigits
	limbs := make([]uint64, whole+len(b.limbs))
	copy(limbs[whole:], b.limbs)
	return Big{limbs}.Mul(BigOf(tenTo(places % limbDigits)))
}

func tenTo(n int) uint64 {
	power := uint64(1)
	for range n {
		power *= 10
	}
	return power
}

// DivMod: how often c goes into it, and what is left. c must not be 0.
func (b Big) DivMod(c Big) (often, left Big) {
	if b.Cmp(c) < 0 {
		return Big{}, b
	}
	if len(c.limbs) == 1 {
		return b.divideShort(c.limbs[0])
	}
	return divideLong(b, c)
}

func (b Big) divideShort(by uint64) (often, left Big) {
	digits := make([]uint64, len(b.limbs))
	rest := uint64(0)
	for i := len(b.limbs) - 1; i >= 0; i-- {
		rest = rest*limbBase + b.limbs[i]
		digits[i] = rest / by
		rest %= by
	}
	return trim(digits), BigOf(rest)
}

// divideLong is the division of school, a limb being a digit. c has two limbs or more, and is not above b.
func divideLong(b, c Big) (often, left Big) {
	// Both are made greater, so that the first limb of what divides is at least half of the base: then guesses are nearly always right.
	scale := BigOf(limbBase / (c.limbs[len(c.limbs)-1] + 1))
	by := c.Mul(scale).limbs
	rest := make([]uint64, len(b.limbs)+1)
	copy(rest, b.Mul(scale).limbs)
	digits := make([]uint64, len(rest)-len(by))
	window := make([]uint64, len(by)+1)
next:
	for at := len(digits) - 1; at >= 0; at-- {
		for digit := guess(rest[at:at+len(by)+1], by); ; digit-- {
			copy(window, rest[at:])
			if takeAway(window, by, digit) == 0 {
				copy(rest[at:], window)
				digits[at] = digit
				continue next
			}
		}
	}
	left, _ = trim(rest).divideShort(scale.limbs[0])
	return trim(digits), left
}

// guess: how often by goes into window, as their first limbs tell it: never too few, and at most one too many.
func guess(window, by []uint64) uint64 {
	n := len(by)
	head := window[n]*limbBase + window[n-1]
	digit := min(head/by[n-1], limbBase-1)
	rest := head - digit*by[n-1]
	for rest < limbBase && digit*by[n-2] > rest*limbBase+window[n-2] {
		digit--
		rest += by[n-1]
	}
	return digit
}

// Pow: to the power n, which must not be below 0.
func (b Big) Pow(n int) Big {
	power := BigOf(1)
	for bit := bits.Len(uint(n)) - 1; bit >= 0; bit-- {
		power = power.Mul(power)
		if n>>bit&1 == 1 {
			power = power.Mul(b)
		}
	}
	return power
}

// Root: the greatest number whose power n is not above b. n must be above 0.
func (b Big) Root(n int) Big {
	switch {
	case n == 1 || b.IsZero():
		return b
	case n == 2:
		return b.squareRoot()
	}
	low, high := Big{}, BigOf(1).Shift(b.Len()/n+1)
	two := BigOf(2)
	for {
		middle, _ := low.Add(high).DivMod(two)
		if middle.Cmp(low) == 0 {
			return low
		}
		if middle.Pow(n).Cmp(b) > 0 {
			high = middle
		} else {
			low = middle
		}
	}
}

// squareRoot: by Newton's steps from above, which fall till they are there; of long numbers far fewer than by halves. b must not be 0.
func (b Big) squareRoot() Big {
	root, two := BigOf(1).Shift(b.Len()/2+1), BigOf(2)
	for {
		often, _ := b.DivMod(root)
		next, _ := root.Add(often).DivMod(two)
		if next.Cmp(root) >= 0 {
			return root
		}
		root = next
	}
}
