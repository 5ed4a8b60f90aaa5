package graph_test

import (
	"math/rand"
	"slices"
	"testing"

	"cubit/api"
	"cubit/graph"
	"cubit/rat"
)

// model: what New answers of edges that are right, in the chapter's words: all ways are looked at.
func model(l []api.Edge) (api.Errno, int, []api.Hop) {
	for i, a := range l {
		ways := allWays(hopsOf(l[:i]), a.From, a.To)
		if len(ways) == 0 {
			continue
		}
		if !mapOf(ways[0]).is(flatOf(a.Mul, a.Add)) {
			return api.ErrAgainst, i, bestOf(ways)
		}
	}
	return api.OK, 0, nil
}

// P14.2: edges between a few names, of which most contradict one another.
func TestNewModel(t *testing.T) {
	r := rand.New(rand.NewSource(142))
	stand := 0
	for range 3000 {
		l := steps(t, r, towers(r, 2+r.Intn(5)), r.Intn(9))
		if n := len(l); n > 0 && r.Intn(2) == 0 {
			l[r.Intn(n)].Add = rational(small(r))
		}
		e, at, way := model(l)
		checkNew(t, l, e, at, way)
		if e == api.OK {
			stand++
		}
	}
	if stand < 500 || stand > 2500 {
		t.Error(stand, "stand")
	}
}

// P14.3, P14.4, P14.8: Map, Way and Convert between all names against all ways.
func TestAnyPath(t *testing.T) {
	r := rand.New(rand.NewSource(144))
	for range 300 {
		levels := towers(r, 6)
		l := steps(t, r, levels, 4+r.Intn(7))
		g := made(t, l)
		all, names := hopsOf(l), g.Names()
		for _, from := range names {
			for _, to := range names {
				ways := allWays(all, from, to)
				if len(ways) == 0 {
					checkAll(t, g, from, to, api.ErrLoose)
					continue
				}
				checkBetween(t, g, from, to, ways, rational(small(r)))
			}
		}
	}
}

func checkBetween(t *testing.T, g *graph.Graph, from, to string, ways [][]api.Hop, x api.Rat) {
	t.Helper()
	best := bestOf(ways)
	w, e := g.Way(from, to)
	checkWay(t, "Way of "+from+" and "+to, w, e, best, api.OK)
	m, e := g.Map(from, to)
	for _, way := range ways {
		want, _ := mapOf(way).told(from, to)
		checkEdge(t, "Map of "+from+" and "+to, m, e, want, api.OK)
	}
	y, e := g.Convert(x, from, to)
	checkRat(t, "Convert of "+from+" and "+to, y, e, rational(mapOf(best).at(value(x))), api.OK)
	use, e := graph.Use(m, x)
	checkRat(t, "Use of the map", use, e, y, api.OK)
}

// P14.5: a neutral one, opposites, and one behind the other.
func TestGroup(t *testing.T) {
	r := rand.New(rand.NewSource(145))
	for range 40 {
		g := made(t, steps(t, r, towers(r, 6), 12))
		for _, a := range g.Names() {
			m, e := g.Map(a, a)
			checkEdge(t, "Map to itself", m, e, api.Edge{From: a, To: a, Mul: rat.Of(1), Add: rat.Of(0)}, api.OK)
			for _, b := range g.Names() {
				checkOpposite(t, g, a, b)
				for _, c := range g.Names() {
					checkBehind(t, g, a, b, c)
				}
			}
		}
	}
}

func checkOpposite(t *testing.T, g *graph.Graph, a, b string) {
	t.Helper()
	m, e := g.Map(a, b)
	if e == api.ErrLoose {
		return
	}
	back, e := graph.Turn(m)
	n, other := g.Map(b, a)
	checkEdge(t, "Map of "+b+" and "+a, n, other, back, e)
}

func checkBehind(t *testing.T, g *graph.Graph, a, b, c string) {
	t.Helper()
	first, e := g.Map(a, b)
	second, other := g.Map(b, c)
	if e == api.ErrLoose || other == api.ErrLoose {
		return
	}
	both, e := graph.Then(first, second)
	m, other := g.Map(a, c)
	checkEdge(t, "Map of "+a+" and "+c, m, other, both, e)
}

// P14.6: in another order, and told the other way round, edges are the same graph, or as well none.
func TestOrder(t *testing.T) {
	r := rand.New(rand.NewSource(146))
	for range 400 {
		l := steps(t, r, towers(r, 5), 8)
		if r.Intn(3) == 0 {
			l[r.Intn(8)].Mul = rational(smallNotZero(r))
		}
		g, e, _, _ := graph.New(l)
		mixed := slices.Clone(l)
		r.Shuffle(len(mixed), func(i, j int) { mixed[i], mixed[j] = mixed[j], mixed[i] })
		for i := range mixed {
			if r.Intn(2) == 0 {
				mixed[i], _ = graph.Turn(mixed[i])
			}
		}
		h, other, _, _ := graph.New(mixed)
		if e != other {
			t.Fatalf("New(%v) is %d, and New(%v) %d", l, e, mixed, other)
		}
		for _, from := range g.Names() {
			for _, to := range g.Names() {
				x := rational(small(r))
				m, e := h.Map(from, to)
				want, is := g.Map(from, to)
				checkEdge(t, "Map", m, e, want, is)
				y, e := h.Convert(x, from, to)
				wanted, is := g.Convert(x, from, to)
				checkRat(t, "Convert", y, e, wanted, is)
			}
		}
	}
}

// P14.7: an edge again changes nothing; with another map it is refused, with the way that it contradicts.
func TestAgain(t *testing.T) {
	r := rand.New(rand.NewSource(147))
	for range 200 {
		l := steps(t, r, towers(r, 5), 8)
		a := l[r.Intn(8)]
		g, h := made(t, l), made(t, append(slices.Clone(l), a))
		for _, from := range g.Names() {
			for _, to := range g.Names() {
				w, e := h.Way(from, to)
				want, is := g.Way(from, to)
				checkWay(t, "Way", w, e, want, is)
			}
		}
		other, more := a, a
		other.Mul, _ = rat.Add(a.Mul, a.Mul)
		more.Add, _ = rat.Add(a.Add, number(t, "1e-100"))
		way, _ := g.Way(a.From, a.To)
		checkNew(t, append(slices.Clone(l), other), api.ErrAgainst, 8, way)
		checkNew(t, append(slices.Clone(l), more, a), api.ErrAgainst, 8, way)
	}
}

// P14.2, P14.4: many edges between many names, with long numbers.
func TestMany(t *testing.T) {
	r := rand.New(rand.NewSource(148))
	levels := make(map[string]flat)
	for i := range 300 {
		m := flat{smallNotZero(r), small(r)}
		for range 12 {
			m = m.then(flat{smallNotZero(r), small(r)})
		}
		levels[string(rune('0'+i))] = m
	}
	l := steps(t, r, levels, 1024)
	g := made(t, l)
	if n := len(g.Names()); n < 290 {
		t.Error(n)
	}
	for range 300 {
		names := g.Names()
		from, to := names[r.Intn(len(names))], names[r.Intn(len(names))]
		want, _ := levels[from].then(levels[to].back()).told(from, to)
		if m, e := g.Map(from, to); e != api.ErrLoose {
			checkEdge(t, "Map of "+from+" and "+to, m, e, want, api.OK)
		}
	}
	at := len(l) - 1
	l[at] = l[at-1]
	l[at].Add, _ = rat.Add(l[at].Add, rat.Of(1))
	way, _ := made(t, l[:at]).Way(l[at].From, l[at].To)
	checkNew(t, l, api.ErrAgainst, at, way)
}
