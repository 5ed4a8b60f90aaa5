package decl_test

import (
	"fmt"
	"math/rand"
	"regexp"
	"slices"
	"strings"
	"testing"

	"cubit/api"
	"cubit/decl"
	"cubit/names"
	"cubit/rat"
)

// short: a thing as text, but not all of it.
func short(v any) string { return fmt.Sprintf("%.400s", fmt.Sprintf("%+v", v)) }

func number(t testing.TB, s string) api.Rat {
	t.Helper()
	r, e, at := rat.Parse(s)
	if e != api.OK {
		t.Fatal(s, e, at)
	}
	return r
}

// fieldsOf: the chapter's table.
func fieldsOf(kind int) []string {
	return strings.Fields([]string{
		"",
		"Name Symbol Dim Factor Takes",
		"Name Symbol Factor Parts Takes",
		"Name Symbol Of Factor Offset",
		"Name Of",
		"Name Symbol Factor Takes",
		"Name Symbol Factor Spread Parts",
	}[kind])
}

// sample: a right declaration of a kind.
func sample(kind int) api.Decl {
	d := api.Decl{Kind: kind, Name: "a", Symbol: "b", Of: "c", Dim: api.Dim{0, 1}, Factor: rat.Of(2), Offset: rat.Of(-3), Spread: rat.Of(4), Parts: []api.Part{{Name: "d", Exp: -2}, {Name: "e", Exp: 1}}, Takes: 1}
	return kept(d)
}

// kept: a declaration with just the fields that its kind has.
func kept(d api.Decl) api.Decl {
	has := fieldsOf(d.Kind)
	for name, drop := range map[string]func(){
		"Name":   func() { d.Name = "" },
		"Symbol": func() { d.Symbol = "" },
		"Of":     func() { d.Of = "" },
		"Dim":    func() { d.Dim = api.Dim{} },
		"Factor": func() { d.Factor = api.Rat{} },
		"Offset": func() { d.Offset = api.Rat{} },
		"Spread": func() { d.Spread = api.Rat{} },
		"Parts":  func() { d.Parts = nil },
		"Takes":  func() { d.Takes = 0 },
	} {
		if !slices.Contains(has, name) {
			drop()
		}
	}
	return d
}

// rightness: what Right should say, in the chapter's own order.
func rightness(d api.Decl) api.Errno {
	if d.Kind < 1 || d.Kind > 6 {
		return api.ErrArg
	}
	has := func(name string) bool { return slices.Contains(fieldsOf(d.Kind), name) }
	sign := func(r api.Rat) string { return r.Num[:1] }
	constant := d.Kind == api.DConst
	for _, rule := range []struct {
		applies bool
		why     api.Errno
	}{
		{!names.Right(d.Name) || has("Symbol") && !names.Right(d.Symbol) || has("Of") && !names.Right(d.Of), api.ErrName},
		{has("Factor") && !rat.Right(d.Factor) || has("Offset") && !rat.Right(d.Offset) || has("Spread") && !rat.Right(d.Spread), api.ErrForm},
		{has("Factor") && !constant && d.Factor.Num == "0", api.ErrZero},
		{has("Factor") && !constant && d.Factor.Num != "" && sign(d.Factor) == "-" || has("Spread") && d.Spread.Num != "" && sign(d.Spread) == "-", api.ErrBelow},
		{has("Dim") && !lone(d.Dim), api.ErrDim},
		{has("Parts") && len(d.Parts) > 64, api.ErrSize},
		{has("Parts") && slices.ContainsFunc(d.Parts, func(p api.Part) bool { return !names.Right(p.Name) }), api.ErrName},
		{has("Parts") && slices.ContainsFunc(d.Parts, func(p api.Part) bool { return p.Exp == 0 || p.Exp > 99 || p.Exp < -99 }), api.ErrExp},
		{has("Takes") && (d.Takes < 0 || d.Takes > 3 || d.Kind == api.DPrefix && d.Takes != 1 && d.Takes != 2), api.ErrArg},
		{!same(d, kept(d)), api.ErrForm},
	} {
		if rule.applies {
			return rule.why
		}
	}
	return api.OK
}

// lone: one exponent 1, all others 0.
func lone(d api.Dim) bool {
	ones, others := 0, 0
	for _, exp := range d {
		switch exp {
		case 0:
		case 1:
			ones++
		default:
			others++
		}
	}
	return ones == 1 && others == 0
}

// same: are two declarations alike in all? (Whether a list without elements is nil is not asked.)
func same(a, b api.Decl) bool {
	if !slices.Equal(a.Parts, b.Parts) {
		return false
	}
	a.Parts, b.Parts = nil, nil
	return fmt.Sprintf("%q", []any{a}) == fmt.Sprintf("%q", []any{b})
}

func sameAll(a, b []api.Decl) bool { return slices.EqualFunc(a, b, same) }

var exponentText = regexp.MustCompile(`^-?[0-9]+$`)

// reading: what Parse should say of a text, in the chapter's words.
func reading(text string) ([]api.Decl, api.Errno, int) {
	if len(text) > 65536 {
		return nil, api.ErrSize, 0
	}
	var l []api.Decl
	lines := strings.Split(text, "\n")
	for at, line := range lines {
		w := strings.FieldsFunc(line, func(r rune) bool { return r == ' ' || r == '\t' })
		if len(w) == 0 || w[0][0] == '#' {
			continue
		}
		d, e := lineReading(w)
		if e != api.OK {
			return nil, e, at
		}
		l = append(l, d)
	}
	return l, api.OK, 0
}

// lineReading: a line's words by the chapter's forms, which stand here as they stand there.
func lineReading(w []string) (api.Decl, api.Errno) {
	forms := map[string]string{
		"base":   "NAME SYMBOL LETTER FACTOR TAKES",
		"unit":   "NAME SYMBOL FACTOR TAKES PART ..",
		"scale":  "NAME SYMBOL FACTOR OFFSET OF",
		"alias":  "NAME OF",
		"prefix": "NAME SYMBOL FACTOR TAKES",
		"const":  "NAME SYMBOL VALUE SPREAD PART ..",
	}
	told, ok := forms[w[0]]
	told, more := strings.CutSuffix(told, " PART ..")
	form := strings.Fields(told)
	if !ok || len(w)-1 < len(form) || len(w)-1 > len(form) && !more {
		return api.Decl{}, api.ErrLine
	}
	d := api.Decl{Kind: slices.Index([]string{"base", "unit", "scale", "alias", "prefix", "const"}, w[0]) + 1}
	var numbers []api.Errno
	for i, what := range form {
		word := w[i+1]
		r, e, _ := rat.Parse(word)
		switch what {
		case "NAME":
			d.Name = word
		case "SYMBOL":
			d.Symbol = word
		case "OF":
			d.Of = word
		case "LETTER":
			place := strings.Index("LMTIHNJB", word)
			if place < 0 || len(word) != 1 {
				return api.Decl{}, api.ErrLine
			}
			d.Dim[place] = 1
		case "TAKES":
			d.Takes = slices.Index([]string{"none", "si", "binary", "any"}, word)
			if d.Takes < 0 {
				return api.Decl{}, api.ErrLine
			}
		case "FACTOR", "VALUE":
			d.Factor, numbers = r, append(numbers, e)
		case "OFFSET":
			d.Offset, numbers = r, append(numbers, e)
		case "SPREAD":
			d.Spread, numbers = r, append(numbers, e)
		}
	}
	for _, e := range numbers {
		if e != api.OK {
			return api.Decl{}, e
		}
	}
	for _, word := range w[1+len(form):] {
		p := api.Part{Name: word, Exp: 1}
		if at := strings.IndexByte(word, '^'); at >= 0 {
			p.Name = word[:at]
			if !exponentText.MatchString(word[at+1:]) {
				return api.Decl{}, api.ErrForm
			}
			p.Exp = 1000
			fmt.Sscanf(word[at+1:], "%d", &p.Exp)
		}
		d.Parts = append(d.Parts, p)
	}
	if e := rightness(d); e != api.OK {
		return api.Decl{}, e
	}
	return d, api.OK
}

func checkParse(t *testing.T, text string, want []api.Decl, why api.Errno, place int) {
	t.Helper()
	got, e, at := decl.Parse(text)
	if !sameAll(got, want) || e != why || at != place {
		t.Errorf("Parse(%s) = %s, %d, %d, not %s, %d, %d", short(text), short(got), e, at, short(want), why, place)
	}
}

func checkPrint(t *testing.T, l []api.Decl, want string, why api.Errno, place int) {
	t.Helper()
	got, e, at := decl.Print(l)
	if got != want || e != why || at != place {
		t.Errorf("Print(%s) = %s, %d, %d, not %s, %d, %d", short(l), short(got), e, at, short(want), why, place)
	}
}

func pick(r *rand.Rand, l ...string) string { return l[r.Intn(len(l))] }

// chance: a declaration that is right.
func chance(r *rand.Rand) api.Decl {
	d := sample(1 + r.Intn(6))
	words := []string{"m", "metre", "\u03bc", "%", "\u00b0C", "\u2030", "a1", "_", "'", "\"", strings.Repeat("x", 40), "base", "none", "L"}
	numbers := []api.Rat{rat.Of(1), rat.Of(1000), {Num: "1", Den: "3"}, {Num: "5463", Den: "20"}, {Num: strings.Repeat("9", 600), Den: "1"}, {Num: "1", Den: strings.Repeat("7", 600)}}
	number := func(signs ...string) api.Rat {
		n := numbers[r.Intn(len(numbers))]
		if s := pick(r, signs...); s == "0" {
			n = rat.Of(0)
		} else {
			n.Num = s + n.Num
		}
		return n
	}
	d.Name, d.Symbol, d.Of = pick(r, words...), pick(r, words...), pick(r, words...)
	d.Dim = api.Dim{}
	d.Dim[r.Intn(8)] = 1
	d.Factor, d.Offset, d.Spread = number(""), number("", "-", "0"), number("", "0")
	if d.Kind == api.DConst {
		d.Factor = number("", "-", "0")
	}
	d.Parts = nil
	for range r.Intn(1 + r.Intn(2)*r.Intn(65)) {
		exp := 1 + r.Intn(99)
		if r.Intn(2) == 0 {
			exp = []int{-exp, 1, -1, 99, -99}[r.Intn(5)]
		}
		d.Parts = append(d.Parts, api.Part{Name: pick(r, words...), Exp: exp})
	}
	d.Takes = r.Intn(4)
	if d.Kind == api.DPrefix {
		d.Takes = 1 + r.Intn(2)
	}
	return kept(d)
}
