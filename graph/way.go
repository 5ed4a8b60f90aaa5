package graph

import (
	"iter"

	"cubit/api"
)

// far: the names that are joined with one, and how many hops each is from it.
func (g *Graph) far(from string) map[string]int {
	hops := map[string]int{from: 0}
	for row := []string{from}; len(row) > 0; row = row[1:] {
		for name := range g.near[row[0]] {
			if _, known := hops[name]; !known {
				hops[name] = hops[row[0]] + 1
				row = append(row, name)
			}
		}
	}
	return hops
}

// best: the names of the best way between two that are joined: at each the first one of those that are nearer to its end.
func (g *Graph) best(from, to string) []string {
	left := g.far(to)
	way := []string{from}
	for at := from; at != to; way = append(way, at) {
		next := ""
		for name := range g.near[at] {
			if left[name] < left[at] && (next == "" || name < next) {
				next = name
			}
		}
		at = next
	}
	return way
}

// between: the best way, if there is one.
func (g *Graph) between(from, to string) ([]string, api.Errno) {
	if g == nil {
		return nil, api.ErrNil
	}
	_, known := g.near[from]
	_, knownToo := g.near[to]
	if !known || !knownToo {
		return nil, api.ErrNone
	}
	if _, joined := g.far(from)[to]; !joined {
		return nil, api.ErrLoose
	}
	return g.best(from, to), api.OK
}

// along: the lines of a way, hop by hop.
func (g *Graph) along(way []string) iter.Seq[line] {
	return func(yield func(line) bool) {
		for i := range len(way) - 1 {
			if !yield(g.near[way[i]][way[i+1]]) {
				return
			}
		}
	}
}

// hops: a way, told. Its lines are those of edges, or lead back: New has found them right.
func (g *Graph) hops(way []string) []api.Hop {
	var l []api.Hop
	for hop := range g.along(way) {
		edge, _ := hop.tell(way[len(l)], way[len(l)+1])
		l = append(l, api.Hop(edge))
	}
	return l
}
