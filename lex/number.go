package lex

import (
	"strings"

	"cubit/api"
	"cubit/rat"
	"cubit/unc"
)

// source: some name for what a number's parentheses say.
const source = "x"

// Number: the value and the spread of a number's text.
func Number(s string) (api.Rat, api.Rat, api.Errno) {
	if s == "" || numberSize(s) < len(s) {
		return api.Rat{}, api.Rat{}, api.ErrForm
	}
	m, e, _ := unc.Parse(s, source)
	if e != api.OK {
		return api.Rat{}, api.Rat{}, e
	}
	spread := rat.Of(0)
	for _, by := range m.Sources {
		spread = by.By
	}
	return m.Value, spread, api.OK
}

// numberSize: how many bytes the longest number has with which a text begins.
func numberSize(s string) int {
	size := digits(s)
	if size == 0 {
		return 0
	}
	size += places(s[size:])
	size += parentheses(s[size:])
	return size + exponent(s[size:])
}

// digits: how many of them a text begins with.
func digits(s string) int {
	for at, r := range s {
		if r < '0' || r > '9' {
			return at
		}
	}
	return len(s)
}

// places: how many bytes a point and digits have; none, where these do not stand there.
func places(s string) int {
	rest, pointed := strings.CutPrefix(s, ".")
	if n := digits(rest); pointed && n > 0 {
		return len(".") + n
	}
	return 0
}

// parentheses: likewise with digits in them.
func parentheses(s string) int {
	rest, opened := strings.CutPrefix(s, "(")
	if n := digits(rest); opened && n > 0 && strings.HasPrefix(rest[n:], ")") {
		return len("(") + n + len(")")
	}
	return 0
}

// exponent: likewise e and digits, perhaps with a sign between.
func exponent(s string) int {
	ahead := one(s, "eE")
	if ahead == 0 {
		return 0
	}
	ahead += one(s[ahead:], "+-")
	if n := digits(s[ahead:]); n > 0 {
		return ahead + n
	}
	return 0
}

// one: how many bytes of these a text begins with, but at most one.
func one(s, of string) int {
	if s != "" && strings.IndexByte(of, s[0]) >= 0 {
		return 1
	}
	return 0
}
