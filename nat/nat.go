// Package nat is layer 1: natural numbers as decimal digits. See shared/doc/01-nat.md.
//
// Its functions take and answer texts of at most api.MaxDigits digits. What the layers above reckon on the way has no such bound: for that there is Big.
package nat

import (
	"strconv"

	"cubit/api"
)

// Right: is a text a natural number?
func Right(s string) bool {
	if len(s) == 0 || len(s) > api.MaxDigits || s[0] == '0' && len(s) > 1 {
		return false
	}
	for i := range len(s) {
		if s[i] < '0' || s[i] > '9' {
			return false
		}
	}
	return true
}

// Digits: how many it has.
func Digits(s string) (int, api.Errno) {
	if !Right(s) {
		return 0, api.ErrForm
	}
	return len(s), api.OK
}

// Of: the text of a number.
func Of(n uint64) string { return strconv.FormatUint(n, 10) }

// Int: the number of a text.
func Int(s string) (uint64, api.Errno) {
	if !Right(s) {
		return 0, api.ErrForm
	}
	n, err := strconv.ParseUint(s, 10, 64)
	if err != nil {
		return 0, api.ErrLarge
	}
	return n, api.OK
}

// Cmp: -1, 0, 1.
func Cmp(a, b string) (int, api.Errno) {
	x, y, e := readTwo(a, b)
	if e != api.OK {
		return 0, e
	}
	return x.Cmp(y), api.OK
}

// Add: the sum. Mul: the product. Gcd: the greatest number that divides both.
func Add(a, b string) (string, api.Errno) { return ofTwo(a, b, Big.Add) }
func Mul(a, b string) (string, api.Errno) { return ofTwo(a, b, Big.Mul) }
func Gcd(a, b string) (string, api.Errno) { return ofTwo(a, b, Big.Gcd) }

func ofTwo(a, b string, do func(x, y Big) Big) (string, api.Errno) {
	x, y, e := readTwo(a, b)
	if e != api.OK {
		return "", e
	}
	return tell(do(x, y))
}

// Sub: the difference, if it is not below 0.
func Sub(a, b string) (string, api.Errno) {
	x, y, e := readTwo(a, b)
	if e != api.OK {
		return "", e
	}
	if x.Cmp(y) < 0 {
		return "", api.ErrBelow
	}
	return tell(x.Sub(y))
}

// DivMod: how often b goes into a, and what is left.
func DivMod(a, b string) (q, r string, e api.Errno) {
	x, y, e := readTwo(a, b)
	if e != api.OK {
		return "", "", e
	}
	if y.IsZero() {
		return "", "", api.ErrZero
	}
	often, left := x.DivMod(y)
	return often.Text(), left.Text(), api.OK
}

// Pow: a to the power n.
func Pow(a string, n int) (string, api.Errno) {
	if !Right(a) {
		return "", api.ErrForm
	}
	if n < 0 || n > api.MaxPow {
		return "", api.ErrArg
	}
	// A number of d digits is at least ten to the d - 1: what is surely too large need not be worked out.
	if (len(a)-1)*n >= api.MaxDigits {
		return "", api.ErrLarge
	}
	return tell(BigText(a).Pow(n))
}

// Root: the greatest number whose power n is not above a.
func Root(a string, n int) (string, api.Errno) {
	if !Right(a) {
		return "", api.ErrForm
	}
	if n < 1 || n > api.MaxPow {
		return "", api.ErrArg
	}
	return tell(BigText(a).Root(n))
}

// Sum: of any number of them.
func Sum(l ...string) (string, api.Errno) {
	if !allRight(l) {
		return "", api.ErrForm
	}
	sum := Big{}
	for _, s := range l {
		sum = sum.Add(BigText(s))
	}
	return tell(sum)
}

// Prod: of any number of them.
func Prod(l ...string) (string, api.Errno) {
	if !allRight(l) {
		return "", api.ErrForm
	}
	for _, s := range l {
		if s == "0" {
			return "0", api.OK
		}
	}
	product := BigOf(1)
	for _, s := range l {
		product = product.Mul(BigText(s))
		// No factor is 0 here, so what is too large stays so.
		if product.Len() > api.MaxDigits {
			return "", api.ErrLarge
		}
	}
	return tell(product)
}

func allRight(l []string) bool {
	for _, s := range l {
		if !Right(s) {
			return false
		}
	}
	return true
}

func readTwo(a, b string) (x, y Big, e api.Errno) {
	if !Right(a) || !Right(b) {
		return Big{}, Big{}, api.ErrForm
	}
	return BigText(a), BigText(b), api.OK
}

func tell(b Big) (string, api.Errno) {
	if b.Len() > api.MaxDigits {
		return "", api.ErrLarge
	}
	return b.Text(), api.OK
}
