package show

import (
	"strconv"
	"strings"

	"cubit/rat"
)

// How many digits may count, how many may stand behind the point.
const (
	mostDigits = 40
	mostPlaces = 40
)

// Numbers whose first digit stands from the place leastPlain on are told plainly, up to plainAnyway, or as far as their digits go.
const (
	leastPlain  = -5
	plainAnyway = 6
)

func mayCount(digits int) bool { return digits >= 1 && digits <= mostDigits }

// sizeOf: without its sign.
func sizeOf(f rat.Frac) rat.Frac {
	if f.Sign() < 0 {
		return f.Neg()
	}
	return f
}

// told: a number with so many digits that count.
func told(f rat.Frac, digits int) string {
	sign := ""
	switch f.Sign() {
	case 0:
		return "0"
	case -1:
		sign = "-"
	}
	d := rounded(sizeOf(f), digits)
	if d.exp >= leastPlain && d.exp < max(digits, plainAnyway) {
		return sign + d.plain()
	}
	return sign + d.withExponent()
}

// decimal: digits, the first of which, not 0, stands for so many times ten to the exp.
type decimal struct {
	digits string
	exp    int
}

// rounded: to so many digits; of two as near the even one. The number must be above 0.
func rounded(f rat.Frac, digits int) decimal {
	exp := f.Places() - 1
	whole, _ := f.Shift(digits - 1 - exp).Round().Tell() // of some 40 digits
	if len(whole.Num) > digits {
		return decimal{whole.Num[:digits], exp + 1} // nines, which have become a 1 and noughts
	}
	return decimal{whole.Num, exp}
}

func (d decimal) plain() string {
	ones := d.exp + 1 // so many digits stand ahead of the point
	switch {
	case ones <= 0:
		return "0." + strings.Repeat("0", -ones) + d.digits
	case ones < len(d.digits):
		return d.digits[:ones] + "." + d.digits[ones:]
	}
	return d.digits + strings.Repeat("0", ones-len(d.digits))
}

func (d decimal) withExponent() string {
	text := d.digits[:1]
	if len(d.digits) > 1 {
		text += "." + d.digits[1:]
	}
	return text + "e" + strconv.Itoa(d.exp)
}
