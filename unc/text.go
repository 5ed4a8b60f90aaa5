package unc

import (
	"strconv"
	"strings"

	"cubit/api"
	"cubit/rat"
)

// mostDigits: of a spread that is rounded.
const mostDigits = 60

// Spread: the root of Var, with so many digits.
func Spread(a api.Meas, digits int) (api.Rat, api.Errno) {
	x, e := readFor(a, digits)
	if e != api.OK {
		return api.Rat{}, e
	}
	if len(x.sources) == 0 {
		return rat.Of(0), api.OK
	}
	n, exp := x.spread(digits)
	return n.Shift(exp).Tell()
}

func readFor(a api.Meas, digits int) (Value, api.Errno) {
	x, right := Read(a)
	if !right {
		return Value{}, api.ErrForm
	}
	if digits < 1 || digits > mostDigits {
		return Value{}, api.ErrArg
	}
	return x, api.OK
}

// spread: rounded to n, a natural number of so many digits, times ten to the exp. x must have sources.
func (x Value) spread(digits int) (n rat.Frac, exp int) {
	variance := total(together(x, x), rat.Frac.Mul)
	// Of a number with p places ahead of the point the root has half as many, rounded up.
	exp = (variance.Places()+1)>>1 - digits
	square := variance.Shift(-2 * exp)
	n = nearestRoot(square)
	if n.Places() > digits {
		return n.Shift(-1), exp + 1
	}
	return n, exp
}

// nearestRoot: the whole number nearest to the root of a number above 0; of two the even one.
func nearestRoot(square rat.Frac) rat.Frac {
	n := square.Root()
	half, _ := rat.Read(api.Rat{Num: "1", Den: "2"})
	middle := n.Add(half)
	switch order := square.Cmp(middle.Mul(middle)); {
	case order > 0:
		return n.Add(whole(1))
	case order == 0:
		return middle.Round()
	}
	return n
}

// Print: a text as Parse takes it, with so many digits of the spread.
func Print(a api.Meas, digits int) (string, api.Errno) {
	x, e := readFor(a, digits)
	if e != api.OK {
		return "", e
	}
	if len(x.sources) == 0 {
		return rat.Print(a.Value)
	}
	n, exp := x.spread(digits)
	if exp > 0 {
		return told(x.at.Shift(-exp).Round()) + "(" + told(n) + ")e" + strconv.Itoa(exp), api.OK
	}
	if -exp > api.MaxDigits {
		return "", api.ErrLarge
	}
	text, e := rat.Digits(a.Value, -exp)
	if e != api.OK {
		return "", e
	}
	return text + "(" + told(n) + ")", api.OK
}

// told: the text of a whole number that is right.
func told(n rat.Frac) string {
	r, _ := n.Tell()
	return r.Num
}

// Parse: 1.234(5), with a source of a name; the place of the fault.
func Parse(s, name string) (api.Meas, api.Errno, int) {
	if !isName(name) {
		return api.Meas{}, api.ErrForm, 0
	}
	if len(s) > api.MaxText {
		return api.Meas{}, api.ErrSize, 0
	}
	c, at := cutParens(s)
	if at >= 0 {
		return api.Meas{}, api.ErrForm, at
	}
	v, e, at := rat.Parse(c.ahead + c.behind)
	if e == api.ErrForm {
		// Where there are parentheses, what stands ahead of them is right: the fault stands behind them.
		at += len(s) - len(c.ahead) - len(c.behind)
	}
	if e != api.OK {
		return api.Meas{}, e, at
	}
	m := api.Meas{Value: v}
	if c.digits == "" {
		return m, api.OK, 0
	}
	by, e, _ := rat.Parse(c.digits + "e" + strconv.Itoa(c.power()))
	if e != api.OK {
		return api.Meas{}, e, 0
	}
	m.Sources = []api.Source{{Name: name, By: by}}
	return m, api.OK, 0
}

// cuts of an uncertain text: what stands ahead of and behind its parentheses (behind them nothing, if there are none), and the digits in these, without noughts ahead.
type cuts struct {
	ahead, digits, behind string
}

// cutParens cuts a text at its parentheses; else it tells the place up to which it is a beginning of an uncertain text, where that is found by its parentheses alone, or by what stands ahead of them (-1: it is not found so).
func cutParens(s string) (cuts, int) {
	open := strings.IndexByte(s, '(')
	if open < 0 {
		return cuts{ahead: s}, -1
	}
	ahead := s[:open]
	if _, e, at := rat.Parse(ahead); e == api.ErrForm {
		return cuts{}, at
	}
	if strings.ContainsAny(ahead, "/eE") {
		return cuts{}, open
	}
	end := open + 1
	for end < len(s) && s[end] >= '0' && s[end] <= '9' {
		end++
	}
	if end == open+1 || end == len(s) || s[end] != ')' {
		return cuts{}, end
	}
	behind := s[end+1:]
	if behind != "" && behind[0] != 'e' && behind[0] != 'E' {
		return cuts{}, end + 1
	}
	return cuts{ahead, strings.TrimLeft(s[open+1:end], "0"), behind}, -1
}

// power: of ten, at the last digit ahead of the parentheses. The number without these has been read: what is behind its e is not large.
func (c cuts) power() int {
	exp := 0
	if c.behind != "" {
		exp, _ = strconv.Atoi(c.behind[1:])
	}
	_, places, _ := strings.Cut(c.ahead, ".")
	return exp - len(places)
}
