package start

import (
	"slices"
	"strings"

	"cubit/api"
)

// lead: a name, and those to which it leads.
type lead struct {
	from string
	to   []string
}

// web: names, sorted; of each the numbers of those to which it leads, rising, and of those that lead to it.
type web struct {
	names       []string
	next, ahead [][]int
}

// webOf: each name stands once, and leads to names that stand there.
func webOf(l []lead) web {
	sorted := slices.Clone(l)
	slices.SortFunc(sorted, func(a, b lead) int { return strings.Compare(a.from, b.from) })
	w := web{next: make([][]int, len(l)), ahead: make([][]int, len(l))}
	for _, a := range sorted {
		w.names = append(w.names, a.from)
	}
	for from, a := range sorted {
		for _, name := range a.to {
			to, _ := slices.BinarySearch(w.names, name)
			w.next[from] = append(w.next[from], to)
			w.ahead[to] = append(w.ahead[to], from)
		}
		slices.Sort(w.next[from])
	}
	return w
}

// ring: of the shortest cycles the first one, told from a name on that may begin it; none, if there is no cycle.
//
// The names are gone through as they are sorted: so the first one through which a shortest cycle goes begins the one that comes first, and each next name is the first one from which the shortest way leads back.
func (w web) ring(begins func(name string) bool) []string {
	var first []int
	for n, name := range w.names {
		if !begins(name) {
			continue
		}
		if r := w.through(n); len(r) > 0 && (len(first) == 0 || len(r) < len(first)) {
			first = r
		}
	}
	var names []string
	for _, n := range first {
		names = append(names, w.names[n])
	}
	return names
}

// far: no way leads back from there.
const far = -1

// through: the first one of the shortest cycles through a number, told from there; none, if there is no cycle.
func (w web) through(n int) []int {
	left := w.ways(n)
	nearer := func(at int) int {
		next := far
		for _, to := range w.next[at] {
			if left[to] != far && (next == far || left[to] < left[next]) {
				next = to
			}
		}
		return next
	}
	ring := []int{n}
	for at := nearer(n); at != n; at = nearer(at) {
		if at == far {
			return nil
		}
		ring = append(ring, at)
	}
	return ring
}

// ways: of each number how many steps lead from there to n.
func (w web) ways(n int) []int {
	left := slices.Repeat([]int{far}, len(w.names))
	left[n] = 0
	for row := []int{n}; len(row) > 0; row = row[1:] {
		for _, from := range w.ahead[row[0]] {
			if left[from] == far {
				left[from] = left[row[0]] + 1
				row = append(row, from)
			}
		}
	}
	return left
}

// importRing: a cycle of imports.
func importRing(l []api.Package) []string {
	var imports []lead
	for _, p := range l {
		imports = append(imports, lead{p.Path, p.Imports})
	}
	return webOf(imports).ring(func(string) bool { return true })
}

// ring: a cycle of variables and functions, with a variable at least.
func (c contents) ring() []string {
	var uses []lead
	for _, t := range c.things {
		uses = append(uses, lead{t.name, t.uses})
	}
	return webOf(uses).ring(func(name string) bool { return c.things[c.at[name]].variable })
}
