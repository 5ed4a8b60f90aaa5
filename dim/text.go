package dim

import (
	"strconv"
	"strings"

	"cubit/api"
)

// letters: in the order of the exponents' places.
const letters = "LMTIHNJB"

// one: the text of the dimension whose exponents are all 0.
const one = "1"

// Print: as Parse takes it.
func Print(d api.Dim) (string, api.Errno) {
	if !Right(d) {
		return "", api.ErrArg
	}
	var terms []string
	for place, letter := range letters {
		if d[place] != 0 {
			terms = append(terms, term(letter, d[place]))
		}
	}
	if len(terms) == 0 {
		return one, api.OK
	}
	return strings.Join(terms, " "), api.OK
}

func term(letter rune, exp int) string {
	if exp == 1 {
		return string(letter)
	}
	return string(letter) + "^" + strconv.Itoa(exp)
}

// Parse: a dimension's text; the place of the fault.
func Parse(s string) (api.Dim, api.Errno, int) {
	if rest, found := strings.CutPrefix(s, one); found {
		if rest != "" {
			return api.Dim{}, api.ErrForm, len(one)
		}
		return api.Dim{}, api.OK, 0
	}
	r := reader{}
	for at, c := range s {
		if e, place := r.take(at, c); e != api.OK {
			return api.Dim{}, e, place
		}
	}
	if e, place := r.take(len(s), end); e != api.OK {
		return api.Dim{}, e, place
	}
	return r.product, api.OK, 0
}

// end stands behind a text's last rune; no rune is it.
const end rune = -1

// What a text needs next, or may go on with.
const (
	needsLetter = iota
	mayRaise    // behind a letter
	needsNumber // behind ^
	needsDigit  // behind -
	mayDigit    // behind a digit
)

// reader: what has been read of a text: the product of the terms ahead, and the last term as far as it goes.
type reader struct {
	product  api.Dim
	next     int
	under    bool // a / is ahead of the term
	place    int  // which exponent its letter tells of
	letterAt int
	numberAt int
	below    bool // a - is ahead of its number
	size     int  // of that number; once above MaxExp it need not be right
}

// take goes on with a rune; a fault, and its place.
func (r *reader) take(at int, c rune) (api.Errno, int) {
	digit := c >= '0' && c <= '9'
	switch {
	case r.next == needsLetter:
		return r.begin(at, c)
	case r.next == mayRaise && c == '^':
		r.next, r.numberAt = needsNumber, at+1
	case r.next == needsNumber && c == '-':
		r.next, r.below = needsDigit, true
	case r.next == mayRaise:
		r.size = 1
		return r.finish(at, c)
	case digit:
		r.next, r.size = mayDigit, min(r.size*10+int(c-'0'), api.MaxExp+1)
	case r.next == mayDigit:
		return r.finish(at, c)
	default:
		return api.ErrForm, at
	}
	return api.OK, 0
}

// begin: a term, by its letter.
func (r *reader) begin(at int, c rune) (api.Errno, int) {
	for place, letter := range letters {
		if letter == c {
			r.next, r.place, r.letterAt = mayRaise, place, at
			return api.OK, 0
		}
	}
	return api.ErrForm, at
}

// finish: a term, by the rune behind it. Its own faults stand ahead of that rune.
func (r *reader) finish(at int, c rune) (api.Errno, int) {
	if r.size > api.MaxExp {
		return api.ErrExp, r.numberAt
	}
	if r.below != r.under {
		r.size = -r.size
	}
	r.product[r.place] += r.size
	if !Right(r.product) {
		return api.ErrExp, r.letterAt
	}
	if c != ' ' && c != '/' && c != end {
		return api.ErrForm, at
	}
	*r = reader{product: r.product, under: c == '/'}
	return api.OK, 0
}
