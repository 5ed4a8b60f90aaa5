package lex_test

import (
	"fmt"
	"math/rand"
	"regexp"
	"slices"
	"strconv"
	"strings"
	"testing"

	"cubit/api"
	"cubit/lex"
	"cubit/unc"
)

// short: a thing as text, but not all of it.
func short(v any) string { return fmt.Sprintf("%.300s", fmt.Sprintf("%+v", v)) }

// The texts of tokens, as the chapters tell them.
var (
	numberText = regexp.MustCompile(`^[0-9]+(?:\.[0-9]+)?(?:\([0-9]+\))?(?:[eE][+-]?[0-9]+)?`)
	wordText   = regexp.MustCompile("^(?:" + letter + "[0-9" + letter[1:] + "*|\u00b0" + letter + "*|[%'\"\u2030\u2103\u2109\u2032\u2033\u2019])")
	powerText  = regexp.MustCompile(`^\^(-?[0-9]+)`)
	raisedText = regexp.MustCompile("^[\u207a\u207b]?[\u2070\u00b9\u00b2\u00b3\u2074-\u2079]+")
	signText   = regexp.MustCompile("^(?:->|[-+*/(),=]|\u00b7|\u00d7|\u00f7|\u2212)")
	blankText  = regexp.MustCompile("^[ \t\n\r]+")
)

// letter: those that are folded, too.
const letter = "[A-Za-z_\u00c5\u00c6\u00d8\u00e5\u00e6\u00f8\u0391-\u03a1\u03a3-\u03a9\u03b1-\u03c9\u00b5\u2126\u212b\u212a]"

var folder = strings.NewReplacer("\u00b5", "\u03bc", "\u2126", "\u03a9", "\u212b", "\u00c5", "\u212a", "K", "\u2032", "'", "\u2033", "\"", "\u2019", "'")

var lowerer = strings.NewReplacer("\u2070", "0", "\u00b9", "1", "\u00b2", "2", "\u00b3", "3", "\u2074", "4", "\u2075", "5", "\u2076", "6", "\u2077", "7", "\u2078", "8", "\u2079", "9", "\u207a", "+", "\u207b", "-")

var signer = strings.NewReplacer("->", "in", "\u00b7", "*", "\u00d7", "*", "\u00f7", "/", "\u2212", "-")

// cutting: what Scan should say.
func cutting(s string) ([]api.Token, api.Errno, int) {
	if len(s) > 65536 {
		return nil, api.ErrSize, 0
	}
	var l []api.Token
	for at := 0; at < len(s); {
		if n := len(blankText.FindString(s[at:])); n > 0 {
			at += n
			continue
		}
		t, e := cut(s[at:])
		if e != api.OK {
			return nil, e, at
		}
		t.At = at
		at += t.Len
		l = append(l, t)
	}
	return append(l, api.Token{Kind: api.TEnd, At: len(s)}), api.OK, 0
}

func cut(s string) (api.Token, api.Errno) {
	if text := numberText.FindString(s); text != "" {
		if _, e, _ := unc.Parse(text, "any"); e != api.OK {
			return api.Token{}, e
		}
		return api.Token{Kind: api.TNumber, Len: len(text), Text: text}, api.OK
	}
	if text := wordText.FindString(s); text != "" {
		word := folder.Replace(text)
		if word == "in" {
			return api.Token{Kind: api.TSign, Len: 2, Text: "in"}, api.OK
		}
		if len(word) > 40 {
			return api.Token{}, api.ErrSize
		}
		return api.Token{Kind: api.TName, Len: len(text), Text: word}, api.OK
	}
	if text := signText.FindString(s); text != "" {
		return api.Token{Kind: api.TSign, Len: len(text), Text: signer.Replace(text)}, api.OK
	}
	if text := powerText.FindString(s); text != "" {
		return exponentOf(text[1:], len(text), 4096)
	}
	if text := raisedText.FindString(s); text != "" {
		return exponentOf(lowerer.Replace(text), len(text), 99)
	}
	return api.Token{}, api.ErrToken
}

func exponentOf(text string, size, most int) (api.Token, api.Errno) {
	n, err := strconv.Atoi(text)
	if err != nil || n > most || n < -most {
		return api.Token{}, api.ErrExp
	}
	return api.Token{Kind: api.TPower, Len: size, Text: strconv.Itoa(n)}, api.OK
}

// tellable: could Scan tell such a token?
func tellable(t api.Token) bool {
	switch t.Kind {
	case api.TNumber:
		_, e, _ := unc.Parse(t.Text, "any")
		return e == api.OK && t.Text != "" && numberText.FindString(t.Text) == t.Text
	case api.TName:
		return len(t.Text) <= 40 && t.Text != "" && t.Text != "in" && wordText.FindString(t.Text) == t.Text && folder.Replace(t.Text) == t.Text
	case api.TSign:
		return slices.Contains([]string{"+", "-", "*", "/", "(", ")", ",", "=", "in"}, t.Text)
	case api.TPower:
		n, err := strconv.Atoi(t.Text)
		return err == nil && n >= -4096 && n <= 4096 && strconv.Itoa(n) == t.Text
	case api.TEnd:
		return t.Text == ""
	}
	return false
}

// joining: what Join should say.
func joining(l []api.Token) (string, api.Errno) {
	if len(l) == 0 {
		return "", api.ErrForm
	}
	text := ""
	for i, t := range l {
		if !tellable(t) || (i == len(l)-1) != (t.Kind == api.TEnd) {
			return "", api.ErrForm
		}
		switch {
		case t.Kind == api.TPower:
			text += "^" + t.Text
		case i > 0 && t.Kind != api.TEnd:
			text += " " + t.Text
		default:
			text += t.Text
		}
	}
	if len(text) > 65536 {
		return "", api.ErrSize
	}
	return text, api.OK
}

// alike: Same, in the chapter's words.
func alike(a, b []api.Token) bool {
	if len(a) != len(b) {
		return false
	}
	for i := range a {
		if a[i].Kind != b[i].Kind || a[i].Text != b[i].Text {
			return false
		}
	}
	return true
}

func checkScan(t *testing.T, s string, want []api.Token, why api.Errno, place int) {
	t.Helper()
	got, e, at := lex.Scan(s)
	if !slices.Equal(got, want) || e != why || at != place {
		t.Errorf("Scan(%.200q) = %s, %d, %d, not %s, %d, %d", s, short(got), e, at, short(want), why, place)
	}
}

func checkJoin(t *testing.T, l []api.Token, want string, why api.Errno) {
	t.Helper()
	if got, e := lex.Join(l); got != want || e != why {
		t.Errorf("Join(%s) = %.200q, %d, not %.200q, %d", short(l), got, e, want, why)
	}
}

// told: a text's tokens in short: their kinds, and their texts.
func told(t testing.TB, s string) string {
	t.Helper()
	l, e, at := lex.Scan(s)
	if e != api.OK {
		return fmt.Sprintf("error %d at %d", e, at)
	}
	var all []string
	for _, token := range l {
		all = append(all, "?nasEp"[token.Kind:token.Kind+1]+token.Text)
	}
	return strings.Join(all, " ")
}

// tokens: of kinds and texts as told gives them.
func tokens(s string) []api.Token {
	var l []api.Token
	for _, word := range strings.Fields(s) {
		l = append(l, api.Token{Kind: strings.IndexByte("?nasEp", word[0]), Text: word[1:]})
	}
	return l
}

func pick(r *rand.Rand, l ...string) string { return l[r.Intn(len(l))] }

// chance: a text of pieces of tokens, blanks, and what is none.
func chance(r *rand.Rand, most int, wrong bool) string {
	var s strings.Builder
	for range r.Intn(most + 1) {
		switch n := r.Intn(20); {
		case n < 4:
			s.WriteString(pick(r, "0", "1", "2", "42", "007", "1.5", "0.10", "12(3)", "1.20(15)", "2e3", "2E-3", "3(4)e+05", "1e600", "9(0)"))
		case n < 7:
			s.WriteString(pick(r, "m", "km", "e", "E5", "in", "In", "i", "n", "inch", "\u00b5m", "\u03bc", "\u2126", "\u212a", "%", "'", "\u2032", "\u00b0", "\u00b0C", "\u2103", "_1", strings.Repeat("x", 39)))
		case n < 11:
			s.WriteString(pick(r, "+", "-", "*", "/", "(", ")", ",", "=", "->", "\u00b7", "\u00d7", "\u00f7", "\u2212"))
		case n < 14:
			s.WriteString(pick(r, "^2", "^-1", "^0", "^-0", "^007", "^4096", "^-4096", "\u00b2", "\u207b\u00b9", "\u207a\u00b3", "\u2079\u2079", "\u2070"))
		case n < 18 || !wrong:
			s.WriteString(pick(r, " ", " ", " ", "\t", "\n", "\r", "  "))
		default:
			s.WriteString(pick(r, ".", "^", ">", "^4097", "\u2079\u2079\u2079", "\u207b", "#", "\xff", "\u00a0", "\ufffd", "\xce", "\x00", "^-", ";", "1e4097", "\v"))
		}
	}
	return s.String()
}
