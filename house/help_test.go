package house_test

import (
	"fmt"
	"slices"
	"strconv"
	"strings"
	"testing"

	"cubit/api"
	"cubit/dim"
	"cubit/house"
	"cubit/rat"
)

// short: a thing as text, but not all of it.
func short(v any) string { return fmt.Sprintf("%.400s", fmt.Sprintf("%+v", v)) }

func number(t testing.TB, s string) api.Rat {
	t.Helper()
	r, e, at := rat.Parse(s)
	if e != api.OK {
		t.Fatal(s, e, at)
	}
	return r
}

func dims(t testing.TB, s string) api.Dim {
	t.Helper()
	d, e, at := dim.Parse(s)
	if e != api.OK {
		t.Fatal(s, e, at)
	}
	return d
}

// decls: of a text, a line each, as chapter 17 has them.
func decls(t testing.TB, text string) []api.Decl {
	t.Helper()
	var l []api.Decl
	for line := range strings.Lines(text) {
		if w := strings.Fields(line); len(w) > 0 {
			l = append(l, decl(t, w))
		}
	}
	return l
}

func decl(t testing.TB, w []string) api.Decl {
	t.Helper()
	takes := func(s string) int { return slices.Index([]string{"none", "si", "binary", "any"}, s) }
	switch w[0] {
	case "base":
		return api.Decl{Kind: api.DBase, Name: w[1], Symbol: w[2], Dim: dims(t, w[3]), Factor: number(t, w[4]), Takes: takes(w[5])}
	case "unit":
		return api.Decl{Kind: api.DUnit, Name: w[1], Symbol: w[2], Factor: number(t, w[3]), Takes: takes(w[4]), Parts: partsOf(t, w[5:])}
	case "scale":
		return api.Decl{Kind: api.DScale, Name: w[1], Symbol: w[2], Factor: number(t, w[3]), Offset: number(t, w[4]), Of: w[5]}
	case "alias":
		return api.Decl{Kind: api.DAlias, Name: w[1], Of: w[2]}
	case "prefix":
		return api.Decl{Kind: api.DPrefix, Name: w[1], Symbol: w[2], Factor: number(t, w[3]), Takes: takes(w[4])}
	case "const":
		return api.Decl{Kind: api.DConst, Name: w[1], Symbol: w[2], Factor: number(t, w[3]), Spread: number(t, w[4]), Parts: partsOf(t, w[5:])}
	}
	t.Fatal(w)
	return api.Decl{}
}

func partsOf(t testing.TB, words []string) []api.Part {
	t.Helper()
	var l []api.Part
	for _, w := range words {
		name, exp, raised := strings.Cut(w, "^")
		p := api.Part{Name: name, Exp: 1}
		if raised {
			n, err := strconv.Atoi(exp)
			if err != nil {
				t.Fatal(w)
			}
			p.Exp = n
		}
		l = append(l, p)
	}
	return l
}

// built: the house of declarations of which there is one.
func built(t testing.TB, l []api.Decl) *house.House {
	t.Helper()
	h, e, at := house.Build(l)
	if h == nil || e != api.OK || at != 0 {
		t.Fatalf("Build = %v, %d, %d (%s)", h != nil, e, at, short(l[min(at, len(l)-1)]))
	}
	return h
}

func own(t testing.TB) *house.House {
	t.Helper()
	h, e := house.Own()
	if h == nil || e != api.OK {
		t.Fatal(h != nil, e)
	}
	return h
}

func checkBuild(t *testing.T, l []api.Decl, is api.Errno, at int) {
	t.Helper()
	h, e, n := house.Build(l)
	if (h != nil) != (is == api.OK) || e != is || n != at {
		t.Errorf("Build(%s) = %v, %d, %d, not %d, %d", short(l), h != nil, e, n, is, at)
	}
}

func checkText(t *testing.T, text string, is api.Errno, at int) {
	t.Helper()
	checkBuild(t, decls(t, text), is, at)
}

func checkUnit(t *testing.T, h *house.House, word string, want api.Unit, is api.Errno) {
	t.Helper()
	if u, e := h.Unit(word); u != want || e != is {
		t.Errorf("Unit(%.60q) = %s, %d, not %s, %d", word, short(u), e, short(want), is)
	}
}

func checkNoUnit(t *testing.T, h *house.House, is api.Errno, words ...string) {
	t.Helper()
	for _, word := range words {
		checkUnit(t, h, word, api.Unit{}, is)
	}
}

func checkConst(t *testing.T, h *house.House, word string, want api.Const, is api.Errno) {
	t.Helper()
	if c, e := h.Const(word); c != want || e != is {
		t.Errorf("Const(%.60q) = %s, %d, not %s, %d", word, short(c), e, short(want), is)
	}
}

func checkConvert(t *testing.T, h *house.House, x api.Rat, from, to string, want api.Rat, is api.Errno) {
	t.Helper()
	if r, e := h.Convert(x, from, to); r != want || e != is {
		t.Errorf("Convert(%.60s, %q, %q) = %s, %d, not %s, %d", short(x), from, to, short(r), e, short(want), is)
	}
}

// unit: of a text: name, symbol, factor, offset, takes, and its dimension.
func unit(t testing.TB, text, dimension string) api.Unit {
	t.Helper()
	w := strings.Fields(text)
	takes, _ := strconv.Atoi(w[4])
	return api.Unit{Name: w[0], Symbol: w[1], Dim: dims(t, dimension), Factor: number(t, w[2]), Offset: number(t, w[3]), Takes: takes}
}

func named(n int) string { return "n" + strconv.Itoa(n) }

func ten(n int) string { return "1" + strings.Repeat("0", n) }
