package lex_test

import (
	"math"
	"math/rand"
	"slices"
	"strings"
	"testing"

	"cubit/api"
	"cubit/lex"
	"cubit/rat"
	"cubit/unc"
)

// P18.2.
func TestNumber(t *testing.T) {
	nines, noughts := strings.Repeat("9", 600), strings.Repeat("0", 599)
	for _, c := range []struct {
		s         string
		value, by string
		why       api.Errno
	}{
		{"12(3)", "12", "3", 0}, {"0", "0", "0", 0}, {"007", "7", "0", 0}, {"1.50", "3/2", "0", 0}, {"2.50(5)e-3", "1/400", "1/20000", 0}, {"1.234(5)", "617/500", "1/200", 0}, {"5(0)", "5", "0", 0}, {"5(007)", "5", "7", 0}, {"0(2)", "0", "2", 0}, {"1(15)E+02", "100", "1500", 0}, {"1e2", "100", "0", 0}, {"1E-2", "1/100", "0", 0}, {nines, nines, "0", 0}, {"1(" + nines + ")", "1", nines, 0}, {"1e599", "1" + noughts, "0", 0}, {"0e4096", "0", "0", 0},
		{"9" + nines, "", "", api.ErrLarge}, {"1e600", "", "", api.ErrLarge}, {"1e-600", "", "", api.ErrLarge}, {"1(9" + nines + ")", "", "", api.ErrLarge}, {"1(10)e599", "", "", api.ErrLarge}, {"0e4097", "", "", api.ErrLarge}, {"1e99999999999999999999", "", "", api.ErrLarge}, {"0(0)e4097", "", "", api.ErrLarge},
		{"", "", "", api.ErrForm}, {"-1", "", "", api.ErrForm}, {"+1", "", "", api.ErrForm}, {"1/2", "", "", api.ErrForm}, {"1.", "", "", api.ErrForm}, {".1", "", "", api.ErrForm}, {"1e", "", "", api.ErrForm}, {"1e+", "", "", api.ErrForm}, {"1()", "", "", api.ErrForm}, {"1(2", "", "", api.ErrForm}, {"1(2)(3)", "", "", api.ErrForm}, {"1e2(3)", "", "", api.ErrForm}, {" 1", "", "", api.ErrForm}, {"1 ", "", "", api.ErrForm}, {"1\n", "", "", api.ErrForm}, {"1m", "", "", api.ErrForm}, {"1,5", "", "", api.ErrForm}, {"0x1", "", "", api.ErrForm}, {"1_0", "", "", api.ErrForm}, {"\xff", "", "", api.ErrForm}, {"1\xff", "", "", api.ErrForm}, {"\u0661", "", "", api.ErrForm}, {"e5", "", "", api.ErrForm}, {"(3)", "", "", api.ErrForm}, {"1(2.5)", "", "", api.ErrForm}, {"9" + nines + "x", "", "", api.ErrForm}, {"NaN", "", "", api.ErrForm}, {"Inf", "", "", api.ErrForm},
		{strings.Repeat("0", api.MaxText-1) + "7", "7", "0", 0}, {strings.Repeat("0", api.MaxText+1), "", "", api.ErrSize}, {strings.Repeat("9", api.MaxText), "", "", api.ErrLarge}, {strings.Repeat("9", api.MaxText+1), "", "", api.ErrSize}, {strings.Repeat("0", api.MaxText+1) + "x", "", "", api.ErrForm}, {strings.Repeat("x", api.MaxText+1), "", "", api.ErrForm},
	} {
		value, by, e := lex.Number(c.s)
		want, more := api.Rat{}, api.Rat{}
		if c.why == api.OK {
			want, _, _ = rat.Parse(c.value)
			more, _, _ = rat.Parse(c.by)
		}
		if value != want || by != more || e != c.why {
			t.Errorf("Number(%.60q) = %s, %s, %d", c.s, short(value), short(by), e)
		}
	}
}

// P18.2: against chapter 4.
func TestNumbers(t *testing.T) {
	r := rand.New(rand.NewSource(182))
	for range 40000 {
		s := ""
		for range r.Intn(7) {
			s += pick(r, "0", "1", "23", ".", "(", ")", "(4)", "e", "E", "+", "-", "5", ".6", "e7", "e-8", "e599", "/", "x")
		}
		value, by, e := lex.Number(s)
		if s == "" || numberText.FindString(s) != s {
			if e != api.ErrForm || value != (api.Rat{}) || by != (api.Rat{}) {
				t.Errorf("Number(%q) = %s, %s, %d", s, short(value), short(by), e)
			}
			continue
		}
		m, why, _ := unc.Parse(s, "q")
		want := api.Rat{}
		if why == api.OK {
			want, _ = unc.By(m, "q")
		}
		if value != m.Value || by != want || e != why {
			t.Errorf("Number(%q) = %s, %s, %d", s, short(value), short(by), e)
		}
	}
}

// P18.3: the chapter's examples, and what is no list of tokens.
func TestJoin(t *testing.T) {
	checkJoin(t, tokens("n2 s( n3 s) E"), "2 ( 3 )", api.OK)
	checkJoin(t, tokens("am p2 E"), "m^2", api.OK)
	checkJoin(t, tokens("E"), "", api.OK)
	checkJoin(t, tokens("p2 p-3 am p0 sin p4096 n1 s- E"), "^2^-3 m^0 in^4096 1 -", api.OK)
	checkJoin(t, tokens("s+ s- s* s/ s( s) s, s= sin a% a' n1.5(2)e-7 E"), "+ - * / ( ) , = in % ' 1.5(2)e-7", api.OK)
	for _, wrong := range []string{
		"", "n1", "E E", "E n1", "n1 E E", "n1 E n1", "n1 n2",
		"nx E", "n-1 E", "n1. E", "n1e600 E", "n E", "n1m E", "n1/2 E",
		"ain E", "a E", "a1 E", "a\u00b5 E", "a\u212a E", "am^2 E", "am\u00b2 E", "a\xff E", "a- E", "a%% E", "a" + strings.Repeat("x", 41) + " E", "a\u2032 E",
		"s E", "s-> E", "s\u00b7 E", "s\u2212 E", "s^ E", "s++ E", "sx E", "s1 E", "sIn E", "s; E",
		"p E", "p-0 E", "p+1 E", "p01 E", "p4097 E", "p-4097 E", "p\u00b2 E", "p^2 E", "px E", "p2x E", "p- E", "p99999999999999999999 E",
		"Ex", "n1 Ein", "E1 n1 E",
		"?", "? E",
	} {
		checkJoin(t, tokens(wrong), "", api.ErrForm)
	}
	for _, wrong := range []api.Token{{Kind: api.TNumber, Text: "1 "}, {Kind: api.TNumber, Text: " 1"}, {Kind: api.TName, Text: "a b"}, {Kind: api.TName, Text: "a\n"}, {Kind: api.TPower, Text: "2 "}, {Kind: api.TPower, Text: " 2"}, {Kind: api.TSign, Text: "+ "}, {Kind: api.TNumber, Text: "2 (3)"}} {
		checkJoin(t, []api.Token{wrong, {Kind: api.TEnd}}, "", api.ErrForm)
	}
	checkJoin(t, []api.Token{{Kind: api.TEnd, Text: " "}}, "", api.ErrForm)
	for _, kind := range []int{0, 6, -1, math.MinInt, math.MaxInt, 1 << 32, 1<<32 + 1} {
		for _, text := range []string{"", "1", "a", "in"} {
			checkJoin(t, []api.Token{{Kind: kind, Text: text}, {Kind: api.TEnd}}, "", api.ErrForm)
			checkJoin(t, []api.Token{{Kind: kind, Text: text}}, "", api.ErrForm)
		}
	}
	for n := -5000; n <= 5000; n++ {
		l, why, _ := lex.Scan("^" + rat.Of(int64(n)).Num)
		if (why == api.OK) != (n >= -4096 && n <= 4096) {
			t.Error(n, why)
		}
		if why == api.OK {
			checkJoin(t, l, "^"+rat.Of(int64(n)).Num, api.OK)
		}
	}
}

// P18.3: where they stand plays no part.
func TestPlacesPlayNoPart(t *testing.T) {
	l := tokens("n1 am p2 E")
	for i, place := range []int{math.MinInt, math.MaxInt, -1, 7} {
		l[i].At, l[i].Len = place, -place
	}
	checkJoin(t, l, "1 m^2", api.OK)
	if other := tokens("n1 am p2 E"); !lex.Same(l, other) || !lex.Same(other, l) {
		t.Error("not the same")
	}
	given := slices.Clone(l)
	room := append(slices.Clone(l), api.Token{Kind: api.TName, Text: "in"})
	checkJoin(t, room[:4], "1 m^2", api.OK)
	if !slices.Equal(room[:4], given) {
		t.Error("what was given has changed")
	}
}

// P18.3.
func TestSame(t *testing.T) {
	lists := [][]api.Token{nil, tokens("E"), tokens("n1 E"), tokens("a1 E"), tokens("n2 E"), tokens("n1 n1 E"), tokens("n1"), tokens("E n1"), tokens("n01 E"), {{Kind: 17, Text: "\xff"}}, {{Kind: 17, Text: "\xfe"}}, {{Kind: -17, Text: "\xff"}}}
	for i, a := range lists {
		for j, b := range lists {
			if lex.Same(a, b) != (i == j) || alike(a, b) != (i == j) {
				t.Errorf("Same(%s, %s) is not %v", short(a), short(b), i == j)
			}
		}
	}
	if !lex.Same(nil, []api.Token{}) {
		t.Error("two lists of none are not the same")
	}
}

// P18.3, P18.5: there and back.
func TestThereAndBack(t *testing.T) {
	r := rand.New(rand.NewSource(185))
	joined := 0
	for range 40000 {
		var l []api.Token
		for range r.Intn(8) {
			l = append(l, tokens(pick(r, "n1", "n2(3)", "n1e5", "n0.5", "n2e", "ae", "ae5", "am", "ain", "a%", "a\u00b0", "a\u00b0C", "s+", "s-", "s(", "s)", "sin", "s>", "p2", "p-3", "p0", "p-0"))...)
		}
		if r.Intn(8) > 0 {
			l = append(l, api.Token{Kind: api.TEnd})
		}
		want, why := joining(l)
		checkJoin(t, l, want, why)
		if why == api.OK {
			joined++
			if got, e, _ := lex.Scan(want); e != api.OK || !lex.Same(got, l) {
				t.Errorf("Scan(%q) = %s, %d, not %s", want, short(got), e, short(l))
			}
		}
	}
	if joined < 5000 {
		t.Error("only", joined, "lists were right")
	}
	for range 20000 {
		s := chance(r, 12, false)
		l, e, _ := lex.Scan(s)
		if e != api.OK {
			continue
		}
		text, e := lex.Join(l)
		again, why, _ := lex.Scan(text)
		if e != api.OK || why != api.OK || !lex.Same(again, l) {
			t.Errorf("%q is joined as %q: %d, %d", s, text, e, why)
		}
		checkJoin(t, again, text, api.OK)
	}
}

// P18.3: the size, behind all forms.
func TestJoinSizes(t *testing.T) {
	end := api.Token{Kind: api.TEnd}
	list := func(n int, text string, more ...api.Token) []api.Token {
		return append(append(slices.Repeat([]api.Token{{Kind: api.TName, Text: text}}, n), more...), end)
	}
	half := api.MaxText / 2
	checkJoin(t, list(half, "a"), strings.Repeat("a ", half)[:api.MaxText-1], api.OK)
	checkJoin(t, list(half-1, "a", tokens("n12")...), strings.Repeat("a ", half-1)+"12", api.OK)
	checkJoin(t, list(half-1, "a", tokens("p1")...), strings.Repeat("a ", half-1)[:api.MaxText-3]+"^1", api.OK)
	checkJoin(t, list(half-1, "a", tokens("n123")...), "", api.ErrSize)
	checkJoin(t, list(half+1, "a"), "", api.ErrSize)
	checkJoin(t, list(4*half, "a"), "", api.ErrSize)
	checkJoin(t, list(4*half, "a", tokens("ain")...), "", api.ErrForm)
	checkJoin(t, list(4*half, "a", end), "", api.ErrForm)
	checkJoin(t, list(4*half, "a")[:4*half], "", api.ErrForm)
	long := strings.Repeat("0", api.MaxText)
	checkJoin(t, []api.Token{{Kind: api.TNumber, Text: long}, end}, long, api.OK)
	checkJoin(t, []api.Token{{Kind: api.TNumber, Text: long}, {Kind: api.TPower, Text: "1"}, end}, "", api.ErrSize)
	checkJoin(t, []api.Token{{Kind: api.TNumber, Text: long + "0"}, end}, "", api.ErrForm)
	// A text without blanks is longer once it is joined.
	raised := strings.Repeat("\u207b\u00b2", 8000)
	l, e, _ := lex.Scan(raised)
	if e != api.OK || len(l) != 8001 {
		t.Fatal(e, len(l))
	}
	checkJoin(t, l, strings.Repeat("^-2", 8000), api.OK)
	for _, n := range []int{half / 2, half/2 + 1} {
		l, _, _ = lex.Scan(strings.Repeat("()", n))
		if n == half/2 {
			checkJoin(t, l, strings.Repeat("( ) ", n)[:4*n-1], api.OK)
		} else {
			checkJoin(t, l, "", api.ErrSize)
		}
	}
}
