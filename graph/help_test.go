package graph_test

import (
	"fmt"
	"math/big"
	"math/rand"
	"slices"
	"strings"
	"testing"

	"cubit/api"
	"cubit/graph"
	"cubit/rat"
)

func number(t testing.TB, s string) api.Rat {
	t.Helper()
	r, e, at := rat.Parse(s)
	if e != api.OK {
		t.Fatal(s, e, at)
	}
	return r
}

// edge: of a text: two names, Mul, and Add, if that is not 0.
func edge(t testing.TB, text string) api.Edge {
	t.Helper()
	words := append(strings.Fields(text), "0")
	return api.Edge{From: words[0], To: words[1], Mul: number(t, words[2]), Add: number(t, words[3])}
}

// edges: one behind the other, a comma between two.
func edges(t testing.TB, text string) []api.Edge {
	t.Helper()
	var l []api.Edge
	for _, part := range strings.Split(text, ",") {
		if strings.TrimSpace(part) != "" {
			l = append(l, edge(t, part))
		}
	}
	return l
}

func hops(t testing.TB, text string) []api.Hop {
	t.Helper()
	var l []api.Hop
	for _, a := range edges(t, text) {
		l = append(l, api.Hop(a))
	}
	return l
}

// made: the graph of edges of which there is one.
func made(t testing.TB, l []api.Edge) *graph.Graph {
	t.Helper()
	g, e, at, way := graph.New(l)
	if g == nil || e != api.OK || at != 0 || len(way) != 0 {
		t.Fatalf("New(%.200v) = %v, %d, %d, %v", l, g, e, at, way)
	}
	return g
}

func checkNew(t *testing.T, l []api.Edge, is api.Errno, at int, way []api.Hop) {
	t.Helper()
	g, e, n, w := graph.New(l)
	if (g != nil) != (is == api.OK) || e != is || n != at || !slices.Equal(w, way) {
		t.Errorf("New(%.200v) = %v, %d, %d, %v, not %d, %d, %v", l, g != nil, e, n, w, is, at, way)
	}
}

func checkEdge(t *testing.T, call string, got api.Edge, e api.Errno, want api.Edge, is api.Errno) {
	t.Helper()
	if got != want || e != is {
		t.Errorf("%.200s = %.200v, %d, not %.200v, %d", call, got, e, want, is)
	}
}

func checkRat(t *testing.T, call string, got api.Rat, e api.Errno, want api.Rat, is api.Errno) {
	t.Helper()
	if got != want || e != is {
		t.Errorf("%.200s = %.200v, %d, not %.200v, %d", call, got, e, want, is)
	}
}

func checkWay(t *testing.T, call string, got []api.Hop, e api.Errno, want []api.Hop, is api.Errno) {
	t.Helper()
	if !slices.Equal(got, want) || e != is {
		t.Errorf("%.200s = %.200v, %d, not %.200v, %d", call, got, e, want, is)
	}
}

// notRight: no rational numbers.
func notRight() []api.Rat {
	long := strings.Repeat("9", api.MaxDigits+1)
	return []api.Rat{{}, {Num: "1"}, {Den: "1"}, {Num: "2", Den: "4"}, {Num: "-0", Den: "1"}, {Num: "0", Den: "2"}, {Num: "1", Den: "0"}, {Num: "1", Den: "-1"}, {Num: "01", Den: "1"}, {Num: "+1", Den: "1"}, {Num: "1.5", Den: "1"}, {Num: "x", Den: "1"}, {Num: long, Den: "1"}, {Num: "1", Den: long}}
}

// wrong: edges that are not right.
func wrong() []api.Edge {
	one, none, long := rat.Of(1), rat.Of(0), strings.Repeat("n", 81)
	l := []api.Edge{{}, {From: "a", To: "b"}, {From: "", To: "b", Mul: one, Add: none}, {From: "a", To: "", Mul: one, Add: none}, {From: long, To: "b", Mul: one, Add: none}, {From: "a", To: long, Mul: one, Add: none}, {From: "a", To: "b", Mul: none, Add: none}, {From: "a", To: "b", Mul: none, Add: one}, {From: strings.Repeat("\u00e9", 41), To: "b", Mul: one, Add: none}}
	for _, r := range notRight() {
		l = append(l, api.Edge{From: "a", To: "b", Mul: r, Add: none}, api.Edge{From: "a", To: "b", Mul: one, Add: r})
	}
	return l
}

// flat: the map of an edge, in the library's own great numbers.
type flat struct{ mul, add *big.Rat }

func value(r api.Rat) *big.Rat {
	v, ok := new(big.Rat).SetString(r.Num + "/" + r.Den)
	if !ok {
		panic("no number: " + r.Num + "/" + r.Den)
	}
	return v
}

func flatOf(mul, add api.Rat) flat { return flat{value(mul), value(add)} }

func neutral() flat { return flat{big.NewRat(1, 1), new(big.Rat)} }

func (a flat) at(x *big.Rat) *big.Rat {
	y := new(big.Rat).Mul(a.mul, x)
	return y.Add(y, a.add)
}

func (a flat) then(b flat) flat { return flat{new(big.Rat).Mul(a.mul, b.mul), b.at(a.add)} }

func (a flat) back() flat {
	add := new(big.Rat).Quo(a.add, a.mul)
	return flat{new(big.Rat).Inv(a.mul), add.Neg(add)}
}

func (a flat) is(b flat) bool { return a.mul.Cmp(b.mul) == 0 && a.add.Cmp(b.add) == 0 }

// rational: as a number of the program, which may be too large.
func rational(v *big.Rat) api.Rat {
	return api.Rat{Num: v.Num().String(), Den: v.Denom().String()}
}

// told: an edge, or ErrLarge, as the chapter has it.
func (a flat) told(from, to string) (api.Edge, api.Errno) {
	x := api.Edge{From: from, To: to, Mul: rational(a.mul), Add: rational(a.add)}
	if !rat.Right(x.Mul) || !rat.Right(x.Add) {
		return api.Edge{}, api.ErrLarge
	}
	return x, api.OK
}

// hopsOf: all hops by edges: each of these, and what leads back of it.
func hopsOf(l []api.Edge) []api.Hop {
	var all []api.Hop
	for _, a := range l {
		b, _ := flatOf(a.Mul, a.Add).back().told(a.To, a.From)
		all = append(all, api.Hop(a), api.Hop(b))
	}
	return all
}

// allWays: all ways from one name to another on which no name stands twice.
func allWays(all []api.Hop, from, to string, been ...string) [][]api.Hop {
	if from == to {
		return [][]api.Hop{nil}
	}
	var ways [][]api.Hop
	been = append(slices.Clone(been), from)
	for _, h := range all {
		if h.From == from && !slices.Contains(been, h.To) {
			for _, rest := range allWays(all, h.To, to, been...) {
				ways = append(ways, append([]api.Hop{h}, rest...))
			}
		}
	}
	return ways
}

// bestOf: the best one of ways, in the chapter's words.
func bestOf(ways [][]api.Hop) []api.Hop {
	return slices.MinFunc(ways, func(v, w []api.Hop) int {
		if len(v) != len(w) {
			return len(v) - len(w)
		}
		for i := range v {
			if c := strings.Compare(v[i].To, w[i].To); c != 0 {
				return c
			}
		}
		return 0
	})
}

func mapOf(way []api.Hop) flat {
	m := neutral()
	for _, h := range way {
		m = m.then(flatOf(h.Mul, h.Add))
	}
	return m
}

// small: a number not far from 0, seldom 0 itself.
func small(r *rand.Rand) *big.Rat { return big.NewRat(int64(r.Intn(19)-9), int64(r.Intn(9)+1)) }

func smallNotZero(r *rand.Rand) *big.Rat {
	for {
		if v := small(r); v.Sign() != 0 {
			return v
		}
	}
}

// towers: so many names, each at a level of its own: edges between these levels never contradict one another.
func towers(r *rand.Rand, n int) map[string]flat {
	levels := make(map[string]flat)
	for i := range n {
		levels[fmt.Sprintf("%c", 'a'+i)] = flat{smallNotZero(r), small(r)}
	}
	return levels
}

// steps: so many edges between levels.
func steps(t testing.TB, r *rand.Rand, levels map[string]flat, n int) []api.Edge {
	t.Helper()
	names := make([]string, 0, len(levels))
	for name := range levels {
		names = append(names, name)
	}
	slices.Sort(names)
	var l []api.Edge
	for range n {
		from, to := names[r.Intn(len(names))], names[r.Intn(len(names))]
		a, e := levels[from].then(levels[to].back()).told(from, to)
		if e != api.OK {
			t.Fatal(e)
		}
		l = append(l, a)
	}
	return l
}

// chain: so many edges from n0 on, all with one map.
func chain(n int, mul, add api.Rat) []api.Edge {
	var l []api.Edge
	for i := range n {
		l = append(l, api.Edge{From: fmt.Sprintf("n%d", i), To: fmt.Sprintf("n%d", i+1), Mul: mul, Add: add})
	}
	return l
}
