package graph_test

import (
	"math/rand"
	"strings"
	"testing"

	"cubit/api"
	"cubit/graph"
	"cubit/rat"
)

// P14.1: the chapter's examples, and others.
func TestThen(t *testing.T) {
	for _, text := range []string{
		"a b 2, b a 1/2, a a 1", "F C 5/9 -160/9, C K 1 5463/20, F K 5/9 45967/180", "a b 1, b c 1, a c 1", "a a 2 3, a a 5 7, a a 10 22", "a b 2 1, b c -3 4, a c -6 1", "a b 1/3 1/2, b b 3 -3/2, a b 1", "a b 2, b c 3 1/7, a c 6 1/7",
	} {
		l := edges(t, text)
		got, e := graph.Then(l[0], l[1])
		checkEdge(t, "Then of "+text, got, e, l[2], api.OK)
	}
}

// P14.1: what is not right goes ahead of what does not fit, and that ahead of what is too large.
func TestThenErrors(t *testing.T) {
	right, other := edge(t, "a b 2 3"), edge(t, "c d 1")
	for _, w := range wrong() {
		for _, r := range []api.Edge{right, other, w} {
			got, e := graph.Then(w, r)
			checkEdge(t, "Then of a wrong one", got, e, api.Edge{}, api.ErrForm)
			got, e = graph.Then(r, w)
			checkEdge(t, "Then of a wrong one", got, e, api.Edge{}, api.ErrForm)
		}
	}
	for _, text := range []string{"a b 1, c d 1", "a b 1, a b 1", "a b 1, a c 1", "a b 1, c b 1", "a b 1, B c 1", "a b 1, bb c 1", "a b 1e599, c d 1e599"} {
		l := edges(t, text)
		got, e := graph.Then(l[0], l[1])
		checkEdge(t, "Then of "+text, got, e, api.Edge{}, api.ErrLoose)
	}
	for _, text := range []string{"a b 1e599, b c 10", "a b 1e-599, b c 1e-1", "a b 1 1e599, b c 10", "a b 1 1e-599, b c 1/10", "a b 1 1e599, b c 1 9e599", "a b 1 1/13, b c 1 1e-599"} {
		l := edges(t, text)
		got, e := graph.Then(l[0], l[1])
		checkEdge(t, "Then of "+text, got, e, api.Edge{}, api.ErrLarge)
	}
}

// P14.1: only results count: what is reckoned on the way may be longer.
func TestThenOnTheWay(t *testing.T) {
	for _, text := range []string{"a b 1e599, b c 1e-599, a c 1", "a b 1e599 1e599, b c 1e-1 -1e598, a c 1e598", "a b 1 1e599, b c 10 -9e599, a c 10 1e599"} {
		l := edges(t, text)
		got, e := graph.Then(l[0], l[1])
		checkEdge(t, "Then of "+text, got, e, l[2], api.OK)
	}
	most := api.Rat{Num: strings.Repeat("9", api.MaxDigits), Den: "1" + strings.Repeat("0", api.MaxDigits-1)}
	back, _ := rat.Inv(most)
	got, e := graph.Then(api.Edge{From: "a", To: "b", Mul: most, Add: most}, api.Edge{From: "b", To: "c", Mul: back, Add: rat.Of(-1)})
	checkEdge(t, "Then of great ones", got, e, edge(t, "a c 1"), api.OK)
}

// P14.1: names of up to 80 bytes, whatever bytes they are.
func TestNamesOfEdges(t *testing.T) {
	for _, name := range []string{"a", " ", "= L", "\x00", "\xff\xfe", "\u00b0C", strings.Repeat("n", 80), strings.Repeat("\u00e9", 40)} {
		a := api.Edge{From: name, To: "b", Mul: rat.Of(2), Add: rat.Of(0)}
		b := api.Edge{From: "b", To: name, Mul: number(t, "1/2"), Add: rat.Of(0)}
		got, e := graph.Turn(a)
		checkEdge(t, "Turn", got, e, b, api.OK)
		got, e = graph.Then(a, b)
		checkEdge(t, "Then", got, e, api.Edge{From: name, To: name, Mul: rat.Of(1), Add: rat.Of(0)}, api.OK)
		r, e := graph.Use(b, rat.Of(8))
		checkRat(t, "Use", r, e, rat.Of(4), api.OK)
		checkNew(t, []api.Edge{a, b}, api.OK, 0, nil)
	}
}

// P14.1: the chapter's example, and others.
func TestTurn(t *testing.T) {
	for _, text := range []string{"F C 5/9 -160/9, C F 9/5 32", "a b 1, b a 1", "a a 2 3, a a 1/2 -3/2", "a b -1 1, b a -1 1", "a b -3 0, b a -1/3", "m cm 100, cm m 1/100", "a b 1e599, b a 1e-599", "a b 1e-300 1e299, b a 1e300 -1e599"} {
		l := edges(t, text)
		got, e := graph.Turn(l[0])
		checkEdge(t, "Turn of "+text, got, e, l[1], api.OK)
		got, e = graph.Turn(l[1])
		checkEdge(t, "Turn of "+text, got, e, l[0], api.OK)
	}
}

// P14.1.
func TestTurnErrors(t *testing.T) {
	for _, w := range wrong() {
		got, e := graph.Turn(w)
		checkEdge(t, "Turn of a wrong one", got, e, api.Edge{}, api.ErrForm)
	}
	for _, text := range []string{"a b 1e-300 1e300", "a a 1e-300 1e300", "a b 1e300 1e-300", "a b 1e-1 -1e599", "a b 13 1e-599"} {
		got, e := graph.Turn(edge(t, text))
		checkEdge(t, "Turn of "+text, got, e, api.Edge{}, api.ErrLarge)
	}
}

// P14.1.
func TestUse(t *testing.T) {
	for _, text := range []string{"F C 5/9 -160/9: 212 100", "a b 2: 3 6", "a b 2 1: 0 1", "a a -1/2 1/3: 2/3 0", "a b 1e599: 1e-599 1", "a b 1e599 -9e599: 10 1e599", "a b 1e300 1: 1e-300 2"} {
		left, right, _ := strings.Cut(text, ":")
		numbers := strings.Fields(right)
		got, e := graph.Use(edge(t, left), number(t, numbers[0]))
		checkRat(t, "Use of "+text, got, e, number(t, numbers[1]), api.OK)
	}
	for _, w := range wrong() {
		got, e := graph.Use(w, rat.Of(1))
		checkRat(t, "Use of a wrong one", got, e, api.Rat{}, api.ErrForm)
		got, e = graph.Use(w, api.Rat{})
		checkRat(t, "Use of a wrong one", got, e, api.Rat{}, api.ErrForm)
	}
	for _, x := range notRight() {
		got, e := graph.Use(edge(t, "a b 2"), x)
		checkRat(t, "Use of a wrong number", got, e, api.Rat{}, api.ErrForm)
	}
	for _, text := range []string{"a b 10: 1e599", "a b 1/10: 1e-599", "a b 1 1e-599: 1/13", "a b 1 9e599: 1e599"} {
		left, right, _ := strings.Cut(text, ": ")
		got, e := graph.Use(edge(t, left), number(t, right))
		checkRat(t, "Use of "+text, got, e, api.Rat{}, api.ErrLarge)
	}
}

// P14.1: against the library's own great numbers.
func TestLines(t *testing.T) {
	r := rand.New(rand.NewSource(14))
	for range 3000 {
		a, b, x := flat{smallNotZero(r), small(r)}, flat{smallNotZero(r), small(r)}, small(r)
		first, _ := a.told("a", "b")
		second, _ := b.told("b", "c")
		want, _ := a.then(b).told("a", "c")
		got, e := graph.Then(first, second)
		checkEdge(t, "Then", got, e, want, api.OK)
		want, _ = a.back().told("b", "a")
		got, e = graph.Turn(first)
		checkEdge(t, "Turn", got, e, want, api.OK)
		y, e := graph.Use(first, rational(x))
		checkRat(t, "Use", y, e, rational(a.at(x)), api.OK)
	}
}
