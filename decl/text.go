package decl

import (
	"strconv"
	"strings"

	"cubit/api"
	"cubit/dim"
	"cubit/rat"
)

// field: what a word of a line says of a declaration.
type field int

const (
	aName field = iota
	aSymbol
	anOf
	aLetter
	aFactor
	anOffset
	aSpread
	aTakes
)

// form: the first word of a kind's line, what those behind it say, and whether parts may stand behind these.
type form struct {
	word   string
	fields []field
	parts  bool
}

func formOf(kind int) form {
	switch kind {
	case api.DBase:
		return form{"base", []field{aName, aSymbol, aLetter, aFactor, aTakes}, false}
	case api.DUnit:
		return form{"unit", []field{aName, aSymbol, aFactor, aTakes}, true}
	case api.DScale:
		return form{"scale", []field{aName, aSymbol, aFactor, anOffset, anOf}, false}
	case api.DAlias:
		return form{"alias", []field{aName, anOf}, false}
	case api.DPrefix:
		return form{"prefix", []field{aName, aSymbol, aFactor, aTakes}, false}
	case api.DConst:
		return form{"const", []field{aName, aSymbol, aFactor, aSpread}, true}
	}
	return form{}
}

// kindOf: the kind of declarations whose lines begin with a word.
func kindOf(word string) (int, bool) {
	for kind := api.DBase; kind <= api.DConst; kind++ {
		if formOf(kind).word == word {
			return kind, true
		}
	}
	return 0, false
}

// fits: may a line of that form have so many words behind its first one?
func (f form) fits(words int) bool {
	return words == len(f.fields) || words > len(f.fields) && f.parts
}

// takesWords: for what a unit takes, by its number.
var takesWords = [...]string{"none", "si", "binary", "any"}

// letterDim: the dimension whose letter a word is.
func letterDim(word string) (api.Dim, bool) {
	d, e, _ := dim.Parse(word)
	return d, e == api.OK && isLetter(word)
}

// isLetter: is a dimension's text just a letter? (The only other one of one byte is that of a plain number.)
func isLetter(text string) bool { return len(text) == 1 && text != "1" }

// Parse: a text's declarations; the number of the line at fault.
func Parse(text string) ([]api.Decl, api.Errno, int) {
	if len(text) > api.MaxText {
		return nil, api.ErrSize, 0
	}
	var l []api.Decl
	for ahead := 0; text != ""; ahead++ {
		line, rest, _ := strings.Cut(text, "\n")
		text = rest
		words := cutWords(line)
		if len(words) == 0 || strings.HasPrefix(words[0], "#") {
			continue
		}
		d, e := read(words[0], words[1:])
		if e != api.OK {
			return nil, e, ahead
		}
		l = append(l, d)
	}
	return l, api.OK, 0
}

func cutWords(line string) []string {
	var words []string
	from := 0
	for at, r := range line + " " {
		switch r {
		case ' ', '\t':
			if from < at {
				words = append(words, line[from:at])
			}
			from = at + 1
		}
	}
	return words
}

// read: the declaration of a line, by its first word and those behind it.
func read(first string, words []string) (api.Decl, api.Errno) {
	kind, found := kindOf(first)
	f := formOf(kind)
	if !found || !f.fits(len(words)) {
		return api.Decl{}, api.ErrLine
	}
	d := api.Decl{Kind: kind}
	// What makes it no line at all is told ahead of every number, wherever the two stand.
	for _, put := range []func(*api.Decl, field, string) api.Errno{putWord, putNumber} {
		for at, which := range f.fields {
			if e := put(&d, which, words[at]); e != api.OK {
				return api.Decl{}, e
			}
		}
	}
	for _, word := range words[len(f.fields):] {
		p, ok := readPart(word)
		if !ok {
			return api.Decl{}, api.ErrForm
		}
		d.Parts = append(d.Parts, p)
	}
	if e := Right(d); e != api.OK {
		return api.Decl{}, e
	}
	return d, api.OK
}

// putWord: a word that is no number, into its field.
func putWord(d *api.Decl, which field, word string) api.Errno {
	ok := true
	switch which {
	case aName:
		d.Name = word
	case aSymbol:
		d.Symbol = word
	case anOf:
		d.Of = word
	case aLetter:
		d.Dim, ok = letterDim(word)
	case aTakes:
		d.Takes, ok = takesOf(word)
	}
	if !ok {
		return api.ErrLine
	}
	return api.OK
}

func takesOf(word string) (int, bool) {
	for takes, told := range takesWords {
		if told == word {
			return takes, true
		}
	}
	return 0, false
}

// putNumber: a number's text, into its field.
func putNumber(d *api.Decl, which field, word string) api.Errno {
	var e api.Errno
	switch which {
	case aFactor:
		d.Factor, e, _ = rat.Parse(word)
	case anOffset:
		d.Offset, e, _ = rat.Parse(word)
	case aSpread:
		d.Spread, e, _ = rat.Parse(word)
	}
	return e
}

// readPart: a name, perhaps with ^ and an exponent. (No name has a ^ in it.)
func readPart(word string) (api.Part, bool) {
	name, text, raised := strings.Cut(word, "^")
	if !raised {
		return api.Part{Name: name, Exp: 1}, true
	}
	exp, ok := exponent(text)
	return api.Part{Name: name, Exp: exp}, ok
}

// exponent: the number that a text says; one that is too large need not be right.
func exponent(text string) (int, bool) {
	digits, below := strings.CutPrefix(text, "-")
	exp := 0
	for _, r := range digits {
		if r < '0' || r > '9' {
			return 0, false
		}
		exp = min(exp*10+int(r-'0'), api.MaxExp+1)
	}
	if below {
		exp = -exp
	}
	return exp, digits != ""
}

// Print: back; the number of the declaration at fault.
func Print(l []api.Decl) (string, api.Errno, int) {
	for at, d := range l {
		if e := Right(d); e != api.OK {
			return "", e, at
		}
	}
	text := strings.Builder{}
	for _, d := range l {
		text.WriteString(strings.Join(wordsOf(d), " "))
		text.WriteByte('\n')
		if text.Len() > api.MaxText {
			return "", api.ErrSize, 0
		}
	}
	return text.String(), api.OK, 0
}

// wordsOf: the line of a declaration that is right.
func wordsOf(d api.Decl) []string {
	f := formOf(d.Kind)
	words := []string{f.word}
	for _, which := range f.fields {
		words = append(words, told(d, which))
	}
	for _, p := range d.Parts {
		words = append(words, toldPart(p))
	}
	return words
}

// told: a field as its word.
func told(d api.Decl, which field) string {
	text := ""
	switch which {
	case aName:
		return d.Name
	case aSymbol:
		return d.Symbol
	case anOf:
		return d.Of
	case aTakes:
		return takesWords[d.Takes]
	case aLetter:
		text, _ = dim.Print(d.Dim)
	case aFactor:
		text, _ = rat.Print(d.Factor)
	case anOffset:
		text, _ = rat.Print(d.Offset)
	case aSpread:
		text, _ = rat.Print(d.Spread)
	}
	return text
}

func toldPart(p api.Part) string {
	if p.Exp == 1 {
		return p.Name
	}
	return p.Name + "^" + strconv.Itoa(p.Exp)
}
