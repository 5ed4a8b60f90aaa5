package lex

import (
	"slices"
	"strings"

	"cubit/api"
)

// Join: a text of tokens.
func Join(l []api.Token) (string, api.Errno) {
	for at, t := range l {
		if !known(t) || (t.Kind == api.TEnd) != (at == len(l)-1) {
			return "", api.ErrForm
		}
	}
	if len(l) == 0 {
		return "", api.ErrForm
	}
	text := strings.Builder{}
	for at, t := range l {
		text.WriteString(between(at, t))
		text.WriteString(written(t))
		if text.Len() > api.MaxText {
			return "", api.ErrSize
		}
	}
	return text.String(), api.OK
}

// known: is it a token that Scan tells? By itself its text is cut as among others; what Scan folds, or cuts off, is not that text any more.
func known(t api.Token) bool {
	l, e, _ := Scan(written(t))
	return e == api.OK && alike(l[0], t)
}

// between: what stands ahead of a token, and behind the one ahead of it.
func between(at int, t api.Token) string {
	if at == 0 || t.Kind == api.TPower || t.Kind == api.TEnd {
		return ""
	}
	return " "
}

func written(t api.Token) string {
	if t.Kind == api.TPower {
		return "^" + t.Text
	}
	return t.Text
}

// Same: are they alike but for their places?
func Same(a, b []api.Token) bool { return slices.EqualFunc(a, b, alike) }

func alike(a, b api.Token) bool { return a.Kind == b.Kind && a.Text == b.Text }
