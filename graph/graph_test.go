package graph_test

import (
	"slices"
	"strings"
	"sync"
	"testing"

	"cubit/api"
	"cubit/graph"
	"cubit/rat"
)

// P14.2: the chapter's examples, and others.
func TestNew(t *testing.T) {
	for _, text := range []string{"", "a b 2", "a a 1", "a a 1 0, a a 1", "a b 2, b c 3, a c 6", "a b 2, b c 3, c a 1/6", "a b 2 1, b a 1/2 -1/2", "a b 2, c d 2", "a b 2, a b 2, b a 1/2", "a b 2, c d 3, b d 5, a c 10/3", "a b -1 1, b a -1 1"} {
		checkNew(t, edges(t, text), api.OK, 0, nil)
	}
	for text, is := range map[string]string{
		"a b 2, b c 3, a c 5": "2: a b 2, b c 3",
		"a a 2":               "0:",
		"a a 1 1":             "0:",
		"a a -1":              "0:",
		"a b 1, b b 1 1/7":    "1:",
		"a b 2, a b 3":        "1: a b 2",
		"a b 2, b a 2":        "1: b a 1/2",
		"a b 2 1, a b 2 3/2":  "1: a b 2 1",
		"a b 2 1, a b 2":      "1: a b 2 1",
		"a b 2 1, b a 1/2":    "1: b a 1/2 -1/2",
		"a b 2 1, b c 3 1, c a 1/6 -2/3, c a 1/6":    "3: c a 1/6 -2/3",
		"a b 2, b c 3, c a 1/5":                      "2: c b 1/3, b a 1/2",
		"a b 1, c d 1, b c 1, d a 2, x x 2":          "3: d c 1, c b 1, b a 1",
		"a b 1, c d 1, c a 2, b d 1":                 "3: b a 1, a c 1/2, c d 1",
		"x x 1, a b 2, y y 1, y x 3, y a 1, b x 2 1": "5: b a 1/2, a y 1, y x 3",
	} {
		at, way, _ := strings.Cut(is, ":")
		checkNew(t, edges(t, text), api.ErrAgainst, int(at[0]-'0'), hops(t, way))
	}
}

// P14.2: the best way by the edges ahead of the one that is told, not by those behind it: the fewest hops, and of as many the first names.
func TestNewBestWay(t *testing.T) {
	for text, is := range map[string]string{
		"a b 2, b c 3, a c 5, a c 6":                                            "2: a b 2, b c 3",
		"a d 1, d z 1, a c 1, c z 1, a b 1, b y 1, y z 1, a z 2":                "7: a c 1, c z 1",
		"a z 1, a b 1, b z 1, a z 2":                                            "3: a z 1",
		"a c 1, c d 1, d z 1, a b 1, b e 1, e z 1, a z 2":                       "6: a b 1, b e 1, e z 1",
		"a b 1, b d 1, d z 1, b c 1, c z 1, a z 1 1":                            "5: a b 1, b c 1, c z 1",
		"a bb 1, bb z 1, a b 1, b z 1, z a 1, z a 2":                            "5: z a 1",
		"a Z 1, Z z 1, a b 1, b z 1, z a 2":                                     "4: z Z 1, Z a 1",
		"a \u00e9 1, \u00e9 z 1, a \u4e00 1, \u4e00 z 1, a ~ 1, ~ z 1, a z 1 1": "6: a ~ 1, ~ z 1",
	} {
		at, way, _ := strings.Cut(is, ":")
		checkNew(t, edges(t, text), api.ErrAgainst, int(at[0]-'0'), hops(t, way))
	}
}

// P14.2: what is wrong with the first edge that can not be.
func TestNewErrors(t *testing.T) {
	ahead := edges(t, "a b 2, b c 3")
	for _, w := range wrong() {
		checkNew(t, []api.Edge{w}, api.ErrForm, 0, nil)
		checkNew(t, append(ahead[:2:2], w), api.ErrForm, 2, nil)
		checkNew(t, append(ahead[:2:2], w, edge(t, "a c 5")), api.ErrForm, 2, nil)
		checkNew(t, append(ahead[:2:2], edge(t, "a c 5"), w), api.ErrAgainst, 2, hops(t, "a b 2, b c 3"))
		checkNew(t, append(ahead[:1:1], w, edge(t, "c d 1e-300 1e300")), api.ErrForm, 1, nil)
	}
	for _, text := range []string{"c d 1e-300 1e300", "a b 1e-300 1e300", "a a 1e-300 1e300", "b a 1e300 1e-300"} {
		l := edge(t, text)
		checkNew(t, []api.Edge{l}, api.ErrLarge, 0, nil)
		checkNew(t, append(ahead[:2:2], l), api.ErrLarge, 2, nil)
		checkNew(t, append(ahead[:2:2], l, api.Edge{}), api.ErrLarge, 2, nil)
		checkNew(t, append(ahead[:2:2], l, edge(t, "a c 5")), api.ErrLarge, 2, nil)
		checkNew(t, append(ahead[:2:2], edge(t, "c a 5"), l), api.ErrAgainst, 2, hops(t, "c b 1/3, b a 1/2"))
	}
}

// P14.2: 1024 edges are not too many; of more nothing is looked at.
func TestNewSize(t *testing.T) {
	l := chain(1024, rat.Of(1), rat.Of(1))
	g := made(t, l)
	if x, e := g.Convert(rat.Of(0), "n0", "n1024"); x != rat.Of(1024) || e != api.OK {
		t.Error(x, e)
	}
	if w, e := g.Way("n1024", "n0"); len(w) != 1024 || e != api.OK {
		t.Error(len(w), e)
	}
	checkNew(t, append(l[:1024:1024], l[0]), api.ErrSize, 0, nil)
	checkNew(t, make([]api.Edge, 1024), api.ErrForm, 0, nil)
	checkNew(t, make([]api.Edge, 1025), api.ErrSize, 0, nil)
	checkNew(t, make([]api.Edge, 100000), api.ErrSize, 0, nil)
	last := append(l[:1023:1023], edge(t, "n1023 n0 1 1"))
	_, e, at, way := graph.New(last)
	if e != api.ErrAgainst || at != 1023 || len(way) != 1023 || way[0] != api.Hop(edge(t, "n1023 n1022 1 -1")) {
		t.Error(e, at, len(way))
	}
	last[1023].Add = rat.Of(-1023)
	checkNew(t, last, api.OK, 0, nil)
}

// P14.2: a ring is looked at as a whole, though what is reckoned on the way is too long for a number.
func TestNewOnTheWay(t *testing.T) {
	l := append(chain(3, number(t, "1e599"), rat.Of(0)), edges(t, "n3 n4 1e-599, n4 n5 1e-599, n5 n6 1e-599")...)
	checkNew(t, append(l[:6:6], edge(t, "n0 n6 1")), api.OK, 0, nil)
	checkNew(t, append(l[:6:6], edge(t, "n6 n0 1")), api.OK, 0, nil)
	checkNew(t, append(l[:6:6], edge(t, "n0 n6 1 1e-590")), api.ErrAgainst, 6, hops(t, "n0 n1 1e599, n1 n2 1e599, n2 n3 1e599, n3 n4 1e-599, n4 n5 1e-599, n5 n6 1e-599"))
	checkNew(t, append(l[:3:3], edge(t, "n3 n0 1")), api.ErrAgainst, 3, hops(t, "n3 n2 1e-599, n2 n1 1e-599, n1 n0 1e-599"))
}

// P14.3: the chapter's examples.
func TestExamples(t *testing.T) {
	g := made(t, edges(t, "m cm 100, m km 1/1000"))
	m, e := g.Map("km", "cm")
	checkEdge(t, "Map(km, cm)", m, e, edge(t, "km cm 100000"), api.OK)
	w, e := g.Way("cm", "km")
	checkWay(t, "Way(cm, km)", w, e, hops(t, "cm m 1/100, m km 1/1000"), api.OK)
	g = made(t, edges(t, "C K 1 5463/20, F C 5/9 -160/9"))
	x, e := g.Convert(rat.Of(212), "F", "K")
	checkRat(t, "Convert(212, F, K)", x, e, number(t, "7463/20"), api.OK)
	g = made(t, edges(t, "a b 2, c d 2"))
	m, e = g.Map("a", "c")
	checkEdge(t, "Map(a, c)", m, e, api.Edge{}, api.ErrLoose)
	m, e = g.Map("a", "x")
	checkEdge(t, "Map(a, x)", m, e, api.Edge{}, api.ErrNone)
}

func checkNames(t *testing.T, text, want string) {
	t.Helper()
	g := made(t, edges(t, text))
	var parts []string
	for _, p := range g.Parts() {
		parts = append(parts, strings.Join(p, " "))
	}
	all := strings.Fields(strings.ReplaceAll(want, ",", ""))
	slices.Sort(all)
	if got := g.Names(); !slices.Equal(got, all) || strings.Join(parts, ", ") != want {
		t.Errorf("of %q: Names() = %q, Parts() = %q", text, got, parts)
	}
}

// P14.3.
func TestNamesAndParts(t *testing.T) {
	for text, want := range map[string]string{
		"":                                 "",
		"a b 2, c d 2":                     "a b, c d",
		"d c 1, b a 1":                     "a b, c d",
		"a a 1":                            "a",
		"z z 1, a y 1, y x 1":              "a x y, z",
		"a d 1, b e 1, c f 1, f b 1":       "a d, b c e f",
		"b a 1, a b 1, B A 1, aa b 1":      "A B, a aa b",
		"\u00e9 z 1, ~ ~ 1, Z 10 1, 9 Z 1": "10 9 Z, z \u00e9, ~",
	} {
		for range 5 {
			checkNames(t, text, want)
		}
	}
}

// P14.3: an error of two is the one that is named first.
func TestErrors(t *testing.T) {
	g := made(t, edges(t, "a b 2, c d 1e599, d e 10, x x 1"))
	for _, text := range []string{"a q", "q a", "q q", "c A", "a aa", "x  "} {
		from, to, _ := strings.Cut(text, " ")
		checkAll(t, g, from, to, api.ErrNone)
	}
	checkAll(t, g, "", "", api.ErrNone)
	checkAll(t, g, "a", "", api.ErrNone)
	for _, text := range []string{"a c", "c a", "x a", "b x"} {
		from, to, _ := strings.Cut(text, " ")
		checkAll(t, g, from, to, api.ErrLoose)
	}
	m, e := g.Map("c", "e")
	checkEdge(t, "Map(c, e)", m, e, api.Edge{}, api.ErrLarge)
	m, e = g.Map("e", "c")
	checkEdge(t, "Map(e, c)", m, e, api.Edge{}, api.ErrLarge)
	w, e := g.Way("c", "e")
	checkWay(t, "Way(c, e)", w, e, hops(t, "c d 1e599, d e 10"), api.OK)
	x, e := g.Convert(rat.Of(1), "c", "e")
	checkRat(t, "Convert(1, c, e)", x, e, api.Rat{}, api.ErrLarge)
	x, e = g.Convert(number(t, "1e-9"), "c", "e")
	checkRat(t, "Convert(1e-9, c, e)", x, e, number(t, "1e591"), api.OK)
	for _, w := range notRight() {
		for _, to := range []string{"b", "q", "c"} {
			x, e = g.Convert(w, "a", to)
			checkRat(t, "Convert of a wrong number", x, e, api.Rat{}, api.ErrForm)
		}
	}
}

// checkAll: Map, Way and Convert answer the same error.
func checkAll(t *testing.T, g *graph.Graph, from, to string, is api.Errno) {
	t.Helper()
	m, e := g.Map(from, to)
	checkEdge(t, "Map of "+from+" and "+to, m, e, api.Edge{}, is)
	w, e := g.Way(from, to)
	checkWay(t, "Way of "+from+" and "+to, w, e, nil, is)
	x, e := g.Convert(rat.Of(1), from, to)
	checkRat(t, "Convert of "+from+" and "+to, x, e, api.Rat{}, is)
}

// P14.3: of nil.
func TestNil(t *testing.T) {
	var g *graph.Graph
	if len(g.Names()) != 0 || len(g.Parts()) != 0 {
		t.Error(g.Names(), g.Parts())
	}
	checkAll(t, g, "a", "b", api.ErrNil)
	checkAll(t, g, "", "", api.ErrNil)
	x, e := g.Convert(api.Rat{}, "a", "a")
	checkRat(t, "Convert of nil", x, e, api.Rat{}, api.ErrNil)
	none := made(t, nil)
	if len(none.Names()) != 0 || len(none.Parts()) != 0 {
		t.Error(none.Names(), none.Parts())
	}
	checkAll(t, none, "a", "a", api.ErrNone)
	x, e = none.Convert(api.Rat{}, "a", "a")
	checkRat(t, "Convert of none", x, e, api.Rat{}, api.ErrForm)
}

// P14.3: from a name to itself there are no hops.
func TestItself(t *testing.T) {
	g := made(t, edges(t, "a b 2 1, c c 1, b a 1/2 -1/2"))
	for _, name := range g.Names() {
		m, e := g.Map(name, name)
		checkEdge(t, "Map to itself", m, e, edge(t, name+" "+name+" 1"), api.OK)
		w, e := g.Way(name, name)
		checkWay(t, "Way to itself", w, e, nil, api.OK)
		x, e := g.Convert(number(t, "-7/3"), name, name)
		checkRat(t, "Convert to itself", x, e, number(t, "-7/3"), api.OK)
	}
}

// P14.3: only results count, hop by hop too.
func TestOnTheWay(t *testing.T) {
	l := append(chain(3, number(t, "1e599"), number(t, "1e599")), edges(t, "n3 n4 1e-599 -1, n4 n5 1e-599 -1, n5 n6 1e-599 -1")...)
	g := made(t, l)
	m, e := g.Map("n0", "n6")
	checkEdge(t, "Map(n0, n6)", m, e, edge(t, "n0 n6 1"), api.OK)
	x, e := g.Convert(number(t, "1/7"), "n0", "n6")
	checkRat(t, "Convert(1/7, n0, n6)", x, e, number(t, "1/7"), api.OK)
	m, e = g.Map("n1", "n6")
	checkEdge(t, "Map(n1, n6)", m, e, edge(t, "n1 n6 1e-599 -1"), api.OK)
	m, e = g.Map("n0", "n2")
	checkEdge(t, "Map(n0, n2)", m, e, api.Edge{}, api.ErrLarge)
}

// Rule 5: edges that were handed in may be changed, and so may be what is answered.
func TestNew5(t *testing.T) {
	l := edges(t, "a b 2, b c 3, x y 1")
	g := made(t, l)
	clear(l)
	names, parts := g.Names(), g.Parts()
	w, _ := g.Way("a", "c")
	names[0], parts[0][0], w[0].To = "?", "?", "?"
	_ = append(parts[0], "?")
	w, e := g.Way("a", "c")
	checkWay(t, "Way(a, c)", w, e, hops(t, "a b 2, b c 3"), api.OK)
	if n, p := g.Names(), g.Parts(); strings.Join(n, " ") != "a b c x y" || strings.Join(p[0], " ") != "a b c" || strings.Join(p[1], " ") != "x y" {
		t.Error(n, p)
	}
	long := edges(t, "a b 2, a b 3, b c 1")
	checkNew(t, long[:1], api.OK, 0, nil)
	if long[1] != edge(t, "a b 3") {
		t.Error(long)
	}
}

// Rule 6: whoever asks at one time is answered the same.
func TestAtOneTime(t *testing.T) {
	g := made(t, edges(t, "a b 2, b c 3, c d 5, a e 2, e d 15"))
	var all sync.WaitGroup
	for range 8 {
		all.Go(func() {
			for range 50 {
				m, e := g.Map("a", "d")
				checkEdge(t, "Map(a, d)", m, e, edge(t, "a d 30"), api.OK)
				w, e := g.Way("b", "e")
				checkWay(t, "Way(b, e)", w, e, hops(t, "b a 1/2, a e 2"), api.OK)
				if p := g.Parts(); len(p) != 1 || strings.Join(p[0], "") != "abcde" {
					t.Error(p)
				}
			}
		})
	}
	all.Wait()
}
