package lex_test

import (
	"math/rand"
	"slices"
	"strings"
	"sync"
	"testing"

	"cubit/api"
	"cubit/lex"
)

// P18.1: the chapter's examples.
func TestExamples(t *testing.T) {
	checkScan(t, "2.50(5)e-3 km/s^-2", []api.Token{{Kind: api.TNumber, Len: 10, Text: "2.50(5)e-3"}, {Kind: api.TName, At: 11, Len: 2, Text: "km"}, {Kind: api.TSign, At: 13, Len: 1, Text: "/"}, {Kind: api.TName, At: 14, Len: 1, Text: "s"}, {Kind: api.TPower, At: 15, Len: 3, Text: "-2"}, {Kind: api.TEnd, At: 18}}, api.OK, 0)
	checkScan(t, "5 \u00b5m\u00b2 -> in", []api.Token{{Kind: api.TNumber, Len: 1, Text: "5"}, {Kind: api.TName, At: 2, Len: 3, Text: "\u03bcm"}, {Kind: api.TPower, At: 5, Len: 2, Text: "2"}, {Kind: api.TSign, At: 8, Len: 2, Text: "in"}, {Kind: api.TSign, At: 11, Len: 2, Text: "in"}, {Kind: api.TEnd, At: 13}}, api.OK, 0)
	checkScan(t, "", []api.Token{{Kind: api.TEnd}}, api.OK, 0)
	checkScan(t, "1.", nil, api.ErrToken, 1)
	checkScan(t, "a ^ 2", nil, api.ErrToken, 2)
	checkScan(t, "x^99999", nil, api.ErrExp, 1)
	checkScan(t, "1e99999", nil, api.ErrLarge, 0)
}

// P18.1: what a text is cut into.
func TestScan(t *testing.T) {
	x40 := strings.Repeat("x", 40)
	for s, want := range map[string]string{
		"2(3)":                                   "n2(3) E",
		"2 (3)":                                  "n2 s( n3 s) E",
		"2( 3)":                                  "n2 s( n3 s) E",
		"2(3":                                    "n2 s( n3 E",
		"2()":                                    "n2 s( s) E",
		"2(-3)":                                  "n2 s( s- n3 s) E",
		"2(3.5)":                                 "n2 s( n3.5 s) E",
		"2(3e1)":                                 "n2 s( n3e1 s) E",
		"2(3)(4)":                                "n2(3) s( n4 s) E",
		"2.5(30)e+07m":                           "n2.5(30)e+07 am E",
		"2e3(4)":                                 "n2e3 s( n4 s) E",
		"2e3.5":                                  "error 180 at 3",
		"2eV":                                    "n2 aeV E",
		"2e":                                     "n2 ae E",
		"2e+":                                    "n2 ae s+ E",
		"2e-m":                                   "n2 ae s- am E",
		"2e+-3":                                  "n2 ae s+ s- n3 E",
		"2E5E6":                                  "n2E5 aE6 E",
		"2(3)e":                                  "n2(3) ae E",
		"2.5.5":                                  "error 180 at 3",
		".5":                                     "error 180 at 0",
		"1..2":                                   "error 180 at 1",
		"1.e5":                                   "error 180 at 1",
		"1.(5)":                                  "error 180 at 1",
		"007":                                    "n007 E",
		"2in":                                    "n2 sin E",
		"in":                                     "sin E",
		"in2":                                    "ain2 E",
		"inin":                                   "ainin E",
		"In IN":                                  "aIn aIN E",
		"in in":                                  "sin sin E",
		"in^2":                                   "sin p2 E",
		"->":                                     "sin E",
		"-->":                                    "s- sin E",
		"->->":                                   "sin sin E",
		"- >":                                    "error 180 at 2",
		"->>":                                    "error 180 at 2",
		">":                                      "error 180 at 0",
		"<-":                                     "error 180 at 0",
		"+-*/(),=":                               "s+ s- s* s/ s( s) s, s= E",
		"a\u00b7b\u00d7c\u00f7d\u2212e":          "aa s* ab s* ac s/ ad s- ae E",
		"\u2212>":                                "error 180 at 3",
		"m^2^3":                                  "am p2 p3 E",
		"^2":                                     "p2 E",
		"^-0":                                    "p0 E",
		"^-007":                                  "p-7 E",
		"^000":                                   "p0 E",
		"^4096":                                  "p4096 E",
		"^-4096":                                 "p-4096 E",
		"^4097":                                  "error 51 at 0",
		"^-4097":                                 "error 51 at 0",
		"^0000000000000000000000000000000000012": "p12 E",
		"m ^99999999999999999999999999999":       "error 51 at 2",
		"^18446744073709551618":                  "error 51 at 0",
		"^+2":                                    "error 180 at 0",
		"^--2":                                   "error 180 at 0",
		"^-":                                     "error 180 at 0",
		"^":                                      "error 180 at 0",
		"^ 2":                                    "error 180 at 0",
		"^- 2":                                   "error 180 at 0",
		"^\u22122":                               "error 180 at 0",
		"^\u00b2":                                "error 180 at 0",
		"^m":                                     "error 180 at 0",
		"^2.5":                                   "error 180 at 2",
		"^2e3":                                   "p2 ae3 E",
		"^2(3)":                                  "p2 s( n3 s) E",
		"^2m":                                    "p2 am E",
		"m\u00b2\u00b3":                          "am p23 E",
		"m\u00b2\u207b\u00b3":                    "am p2 p-3 E",
		"m\u207a\u00b2":                          "am p2 E",
		"\u2070\u2070\u2070\u2079\u2079":         "p99 E",
		"\u207b\u2079\u2079":                     "p-99 E",
		"\u207b\u2070":                           "p0 E",
		"m\u00b9\u2070\u2070":                    "error 51 at 1",
		"m\u207b\u00b9\u2070\u2070":              "error 51 at 1",
		"m\u207b":                                "error 180 at 1",
		"m\u207bx":                               "error 180 at 1",
		"m\u207b\u207b\u00b2":                    "error 180 at 1",
		"\u00b22":                                "p2 n2 E",
		"2\u00b2":                                "n2 p2 E",
		"%%":                                     "a% a% E",
		"5'6\"":                                  "n5 a' n6 a\" E",
		"5\u20326\u2033":                         "n5 a' n6 a\" E",
		"\u2019":                                 "a' E",
		"\u00b0C\u00b0":                          "a\u00b0C a\u00b0 E",
		"\u00b05":                                "a\u00b0 n5 E",
		"\u2103x":                                "a\u2103 ax E",
		"\u2126\u212b\u212a":                     "a\u03a9\u00c5K E",
		"m2":                                     "am2 E",
		"2m2":                                    "n2 am2 E",
		x40:                                      "a" + x40 + " E",
		"1 " + x40 + "x":                         "error 4 at 2",
		strings.Repeat("\u212a", 40):             "a" + strings.Repeat("K", 40) + " E",
		strings.Repeat("\u212a", 41):             "error 4 at 0",
		strings.Repeat("\u03a9", 21):             "error 4 at 0",
		" \t\r\n":                                "E",
		" \t\r\n1\n":                             "n1 E",
		"\v":                                     "error 180 at 0",
		"1\f":                                    "error 180 at 1",
		"1\u00a0":                                "error 180 at 1",
		"1\x00":                                  "error 180 at 1",
		"\xff":                                   "error 180 at 0",
		"a\xff":                                  "error 180 at 1",
		"\u03bc\xce":                             "error 180 at 2",
		"\xc2":                                   "error 180 at 0",
		"\x80":                                   "error 180 at 0",
		"a \ufffd":                               "error 180 at 2",
		"\u03a2":                                 "error 180 at 0",
		"\u0661":                                 "error 180 at 0",
		"\uff11":                                 "error 180 at 0",
		"a;b":                                    "error 180 at 1",
		"a#":                                     "error 180 at 1",
		"1e599":                                  "n1e599 E",
		"1e600":                                  "error 7 at 0",
		"a 1e-600":                               "error 7 at 2",
		"0e4096":                                 "n0e4096 E",
		"0e4097":                                 "error 7 at 0",
		"1(1)e-599":                              "n1(1)e-599 E",
		"1(10)e599":                              "error 7 at 0",
		"1e600 ;":                                "error 7 at 0",
		"; 1e600":                                "error 180 at 0",
	} {
		if got := told(t, s); got != want {
			t.Errorf("Scan(%q) = %s, not %s", s, got, want)
		}
		l, e, at := cutting(s)
		checkScan(t, s, l, e, at)
	}
}

// P18.1: every rune by itself, and behind a name.
func TestRunes(t *testing.T) {
	for r := rune(0); r < 0x3000; r++ {
		for _, s := range []string{string(r), "a" + string(r), string(r) + "5", "2" + string(r) + "b"} {
			l, e, at := cutting(s)
			checkScan(t, s, l, e, at)
		}
	}
	for b := range 256 {
		for _, s := range []string{string([]byte{byte(b)}), "a" + string([]byte{byte(b)}), string([]byte{'1', byte(b), '1'})} {
			l, e, at := cutting(s)
			checkScan(t, s, l, e, at)
		}
	}
}

// P18.1, at short texts of the bytes that numbers and powers have: all of them.
func TestShortTexts(t *testing.T) {
	bytes := "1.(e)+-^ "
	level := []string{""}
	for range 5 {
		var next []string
		for _, s := range level {
			for _, b := range bytes {
				next = append(next, s+string(b))
			}
		}
		level = next
		for _, s := range level {
			l, e, at := cutting(s)
			checkScan(t, s, l, e, at)
		}
	}
}

// P18.1, P18.4.
func TestCutting(t *testing.T) {
	r := rand.New(rand.NewSource(181))
	right := 0
	for i := range 60000 {
		s := chance(r, 12, i%2 == 0)
		want, why, place := cutting(s)
		checkScan(t, s, want, why, place)
		if why == api.OK {
			right++
			checkPlaces(t, s)
		}
	}
	if right < 30000 {
		t.Error("only", right, "texts were right")
	}
}

// checkPlaces: places rise and do not overlap, and what stands between is blanks.
func checkPlaces(t *testing.T, s string) {
	t.Helper()
	l, _, _ := lex.Scan(s)
	end := 0
	for i, token := range l {
		last := i == len(l)-1
		if token.At < end || strings.Trim(s[end:token.At], " \t\r\n") != "" || (token.Kind == api.TEnd) != last || (token.Len == 0) != last {
			t.Errorf("%q: %+v", s, l)
			return
		}
		end = token.At + token.Len
		if plain := token.Kind == api.TNumber; plain && token.Text != s[token.At:end] {
			t.Errorf("%q: %+v", s, token)
		}
	}
	if end != len(s) || l[len(l)-1].Text != "" {
		t.Errorf("%q: %+v", s, l)
	}
}

// P18.6: blanks between tokens.
func TestBlanks(t *testing.T) {
	r := rand.New(rand.NewSource(186))
	for range 20000 {
		s := chance(r, 10, false)
		l, e, _ := lex.Scan(s)
		if e != api.OK {
			continue
		}
		wide, at := "", 0
		for _, token := range l {
			// The blanks that stand there stay, and more may come.
			wide += s[at:token.At] + pick(r, "", " ", "\n", "\r\t", "   ")
			if at == token.At && at > 0 {
				wide += " "
			}
			at = token.At + token.Len
			wide += s[token.At:at]
		}
		got, e, _ := lex.Scan(wide)
		if e != api.OK || !lex.Same(got, l) || !alike(got, l) {
			t.Errorf("%q is %s, but %q %s", s, told(t, s), wide, told(t, wide))
		}
	}
}

// P18.1: texts of MaxText bytes, and of one more; they are cut soon.
func TestLongTexts(t *testing.T) {
	for _, piece := range []string{"1", "0", "a", "(", "1(", "1(1)", "1e", "1e+", "1.1 ", "^1", "^", "\u00b2", "\u207b\u00b9", "%", " ", "->", "-", "\u2212", "in ", "a ", "1.", "\xff", "^-1", "\u212a ", "1(1", strings.Repeat("9", 600) + " ", "0." + strings.Repeat("9", 599) + " ", "1e599 ", "1(1)e-599 ", "1(" + strings.Repeat("9", 600) + ") "} {
		n := api.MaxText / len(piece)
		s := strings.Repeat(piece, n)
		l, e, at := cutting(s)
		checkScan(t, s, l, e, at)
		checkScan(t, s+strings.Repeat(piece, 1+len(piece)), nil, api.ErrSize, 0)
	}
	noughts := strings.Repeat("0", api.MaxText-1)
	checkScan(t, noughts+"7", []api.Token{{Kind: api.TNumber, Len: api.MaxText, Text: noughts + "7"}, {Kind: api.TEnd, At: api.MaxText}}, api.OK, 0)
	checkScan(t, noughts+"77", nil, api.ErrSize, 0)
	checkScan(t, ";"+noughts+"7", nil, api.ErrSize, 0)
	checkScan(t, "^"+noughts[:len(noughts)-1]+"7", []api.Token{{Kind: api.TPower, Len: api.MaxText, Text: "7"}, {Kind: api.TEnd, At: api.MaxText}}, api.OK, 0)
	checkScan(t, "0."+noughts[2:], nil, api.ErrLarge, 0)
	checkScan(t, "1("+noughts[3:]+"7)", []api.Token{{Kind: api.TNumber, Len: api.MaxText, Text: "1(" + noughts[3:] + "7)"}, {Kind: api.TEnd, At: api.MaxText}}, api.OK, 0)
	checkScan(t, strings.Repeat(" ", api.MaxText), []api.Token{{Kind: api.TEnd, At: api.MaxText}}, api.OK, 0)
}

// Rule 5 and rule 6: what is answered is new, at one time too.
func TestAnswersAreNew(t *testing.T) {
	s := "2.5(1) km -> in^2 + \u00b5"
	want, _, _ := cutting(s)
	var all sync.WaitGroup
	for range 8 {
		all.Go(func() {
			for range 20 {
				l, _, _ := lex.Scan(s)
				if !slices.Equal(l, want) {
					t.Error(short(l))
				}
				for i := range l {
					l[i] = api.Token{}
				}
				checkJoin(t, want, "2.5(1) km in in^2 + \u03bc", api.OK)
			}
		})
	}
	all.Wait()
	checkScan(t, s, want, api.OK, 0)
}
