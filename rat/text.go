package rat

import (
	"strconv"
	"strings"

	"cubit/api"
	"cubit/nat"
)

// cutSign: is there a - ahead? And what stands behind it.
func cutSign(s string) (bool, string) {
	digits, below := strings.CutPrefix(s, "-")
	return below, digits
}

// Parse: a number's text; the place of the fault.
func Parse(s string) (api.Rat, api.Errno, int) {
	if len(s) > api.MaxText {
		return api.Rat{}, api.ErrSize, 0
	}
	p, end := cutParts(s)
	if end >= 0 {
		return api.Rat{}, api.ErrForm, end
	}
	if p.denAt > 0 {
		return p.fraction()
	}
	return p.decimal()
}

// parts of a number's text, digits without their signs.
type parts struct {
	below    bool
	ahead    string // of the point, or of /
	behind   string // the point
	exp      string // behind e
	expBelow bool
	under    string // behind /
	denAt    int    // where that begins; 0: there is no /
}

// cutParts cuts a text into its parts; else it tells up to where it is a beginning of a number's text (-1: it is one).
func cutParts(s string) (parts, int) {
	p := parts{}
	at := 0
	if p.below = hasAt(s, at, "-"); p.below {
		at++
	}
	if p.ahead, at = cutDigits(s, at); p.ahead == "" {
		return parts{}, at
	}
	if hasAt(s, at, "/") {
		p.denAt = at + 1
		if p.under, at = cutDigits(s, p.denAt); p.under == "" {
			return parts{}, at
		}
		return p.ended(s, at)
	}
	if hasAt(s, at, ".") {
		if p.behind, at = cutDigits(s, at+1); p.behind == "" {
			return parts{}, at
		}
	}
	if hasAt(s, at, "eE") {
		at++
		p.expBelow = hasAt(s, at, "-")
		if hasAt(s, at, "+-") {
			at++
		}
		if p.exp, at = cutDigits(s, at); p.exp == "" {
			return parts{}, at
		}
	}
	return p.ended(s, at)
}

func (p parts) ended(s string, at int) (parts, int) {
	if at < len(s) {
		return parts{}, at
	}
	return p, -1
}

// hasAt: does one of these bytes stand at that place?
func hasAt(s string, at int, bytes string) bool {
	return at < len(s) && strings.IndexByte(bytes, s[at]) >= 0
}

// cutDigits: the digits from a place on, and the place behind them.
func cutDigits(s string, at int) (string, int) {
	end := at
	for end < len(s) && s[end] >= '0' && s[end] <= '9' {
		end++
	}
	return s[at:end], end
}

// natural: digits without noughts ahead.
func natural(digits string) string {
	if digits = strings.TrimLeft(digits, "0"); digits == "" {
		return "0"
	}
	return digits
}

func (p parts) fraction() (api.Rat, api.Errno, int) {
	num, den := natural(p.ahead), natural(p.under)
	if den == "0" {
		return api.Rat{}, api.ErrZero, p.denAt
	}
	if len(num) > api.MaxDigits || len(den) > api.MaxDigits {
		return api.Rat{}, api.ErrLarge, 0
	}
	r, e := Ratio(p.below, nat.BigText(num), nat.BigText(den)).Tell()
	return r, e, 0
}

func (p parts) decimal() (api.Rat, api.Errno, int) {
	num := natural(p.ahead + p.behind)
	exp := natural(p.exp)
	if len(num) > api.MaxDigits || len(exp) > len("4096") {
		return api.Rat{}, api.ErrLarge, 0
	}
	places, _ := strconv.Atoi(exp)
	if places > api.MaxPow {
		return api.Rat{}, api.ErrLarge, 0
	}
	if p.expBelow {
		places = -places
	}
	places -= len(p.behind)
	// Ten to the n has n + 1 digits.
	if places <= -api.MaxDigits || places >= 0 && num != "0" && len(num)+places > api.MaxDigits {
		return api.Rat{}, api.ErrLarge, 0
	}
	above, below := nat.BigText(num), nat.BigOf(1)
	if places < 0 {
		below = below.Shift(-places)
	} else {
		above = above.Shift(places)
	}
	r, e := Ratio(p.below, above, below).Tell()
	return r, e, 0
}

// Print: as Parse takes it.
func Print(r api.Rat) (string, api.Errno) {
	if !Right(r) {
		return "", api.ErrForm
	}
	if r.Den == "1" {
		return r.Num, api.OK
	}
	return r.Num + "/" + r.Den, api.OK
}

// Digits: with so many places behind the point.
func Digits(r api.Rat, places int) (string, api.Errno) {
	f, right := Read(r)
	if !right {
		return "", api.ErrForm
	}
	if places < 0 || places > api.MaxDigits {
		return "", api.ErrArg
	}
	size := f.nearest(places)
	if size.Len() > api.MaxDigits {
		return "", api.ErrLarge
	}
	return signed(f.below && !size.IsZero(), pointed(size.Text(), places)), api.OK
}

// pointed puts a point ahead of the last digits, with noughts ahead where there are too few.
func pointed(digits string, places int) string {
	if places == 0 {
		return digits
	}
	text := []byte(strings.Repeat("0", max(len(digits), places+1)+1))
	point := len(text) - places - 1
	ahead := max(len(digits)-places, 0)
	copy(text[point-ahead:], digits[:ahead])
	text[point] = '.'
	copy(text[len(text)-(len(digits)-ahead):], digits[ahead:])
	return string(text)
}
