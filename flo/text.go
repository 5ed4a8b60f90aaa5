package flo

import (
	"math"
	"sort"
	"strconv"
	"strings"

	"cubit/api"
	"cubit/nat"
	"cubit/rat"
)

const (
	mostBytes  = 1000 // of a text that is read
	mostDigits = 17   // so many are always enough
	mostPlain  = 21   // so many places ahead of the point are told plainly
	leastPlain = -6   // so are noughts behind it, fewer than these
)

// words: the texts of what is no number.
func words() map[string]float64 {
	return map[string]float64{"NaN": math.NaN(), "+Inf": math.Inf(1), "-Inf": math.Inf(-1)}
}

// Text: the shortest digits that are read back.
func Text(f float64) string {
	// No two of them are alike: whichever comes first, one answer is told.
	for text, word := range words() {
		if Order(f, word) == 0 {
			return text
		}
	}
	text := laid(shortest(f))
	if math.Signbit(f) {
		return "-" + text
	}
	return text
}

// laid: the number 0.digits times ten to the n, in one of four ways.
func laid(digits string, n int) string {
	k := len(digits)
	switch {
	case k <= n && n <= mostPlain:
		return digits + strings.Repeat("0", n-k)
	case 0 < n && n < k:
		return digits[:n] + "." + digits[n:]
	case leastPlain < n && n <= 0:
		return "0." + strings.Repeat("0", -n) + digits
	}
	first := digits[:1]
	if k > 1 {
		first += "." + digits[1:]
	}
	if n > 0 {
		return first + "e+" + strconv.Itoa(n-1)
	}
	return first + "e-" + strconv.Itoa(1-n)
}

// shortest: of the size of a finite float the fewest digits that are read back, with the n for which they are 0.digits times ten to the n.
func shortest(f float64) (string, int) {
	if f == 0 {
		return "0", 1
	}
	r := roomOf(f)
	n := size{r.at, r.den}.places()
	// What so many digits can tell, more can too.
	k := 1 + sort.Search(mostDigits-1, func(i int) bool {
		_, found := r.decimal(i+1, n)
		return found
	})
	d, _ := r.decimal(k, n)
	digits := d.Text()
	if len(digits) > k {
		return "1", n + 1 // of one digit, 9 went up to 10
	}
	return digits, n
}

// room of a float: its number's size, and how far below and above it a number may be that has it as its nearest; all in parts of 1 / den. A float with an even m has those at both ends, too.
type room struct {
	at, below, above, den nat.Big
	even                  bool
}

func roomOf(f float64) room {
	m, e := cut(f)
	// In quarters of the last bit: the room goes half way to the floats beside it, and below a power of two the next one is half as far away.
	below := uint64(2)
	if m == firstBit && e > leastExp {
		below = 1
	}
	quarter := twoTo(e - 2)
	parts := func(n uint64) nat.Big { return quarter.num.Mul(nat.BigOf(n)) }
	return room{parts(4 * m), parts(below), parts(2), quarter.den, m%2 == 0}
}

// decimal: of the decimals with k digits, the last one standing at the place k - n behind the point, the d of the nearest one within the room, if there is one.
func (r room) decimal(k, n int) (nat.Big, bool) {
	step := tenTo(n - k)
	unit := r.den.Mul(step.num)
	within := func(away, reach nat.Big) bool {
		order := away.Cmp(reach.Mul(step.den))
		return order < 0 || order == 0 && r.even
	}
	d, over := r.at.Mul(step.den).DivMod(unit)
	under := unit.Sub(over)
	low, high := within(over, r.below), within(under, r.above)
	if low && high {
		order := over.Cmp(under)
		low = order < 0 || order == 0 && !d.IsOdd()
	}
	switch {
	case low:
		return d, true
	case high:
		return d.Add(nat.BigOf(1)), true
	}
	return nat.Big{}, false
}

// Parse: the float nearest to a text's number.
func Parse(s string) (float64, api.Errno) {
	if word, found := words()[s]; found {
		return word, api.OK
	}
	if len(s) > mostBytes || !isDecimal(s) {
		return 0, api.ErrForm
	}
	text, below := strings.CutPrefix(s, "-")
	digits, places := cutDecimal(text)
	// It is below ten to the n, and a tenth of that or above. Beyond these bounds, which no float reaches, its power of ten might be too great to be worked out.
	switch n := len(digits) + places; {
	case digits == "" || n < -330:
		return nearestTo(below, whole(nat.Big{}))
	case n > 330:
		return 0, api.ErrInf
	}
	return nearestTo(below, whole(nat.BigText(digits)).times(tenTo(places)))
}

// isDecimal: is it a number's text, as rat reads them, and no fraction?
func isDecimal(s string) bool {
	_, e, _ := rat.Parse(s)
	return e != api.ErrForm && !strings.Contains(s, "/")
}

// cutDecimal: of a decimal without its sign the digits, without noughts ahead (of 0 none), and the power of ten that goes with them.
func cutDecimal(s string) (string, int) {
	exp := 0
	if at := strings.IndexAny(s, "eE"); at >= 0 {
		s, exp = s[:at], exponent(s[at+1:])
	}
	ahead, behind, _ := strings.Cut(s, ".")
	return strings.TrimLeft(ahead+behind, "0"), exp - len(behind)
}

// exponent: the number behind e; where it has many digits, one so great that a text's other digits, too few for that, can not make up for it.
func exponent(s string) int {
	digits := strings.TrimLeft(s, "+-0")
	if len(digits) > 5 {
		digits = "99999"
	}
	n, _ := strconv.Atoi(digits)
	if s[0] == '-' {
		return -n
	}
	return n
}
