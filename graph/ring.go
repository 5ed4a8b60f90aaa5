package graph

import "cubit/api"

// against: the number of the first edge that contradicts those ahead of it; how many they are, if none does.
//
// Those that join what is not joined yet make trees, which contradict nothing; each other one closes a ring. There is just one way through a tree, by edges ahead of the one that closes the ring: so all of the trees may be gone through first.
func against(l []api.Edge, lines []line) int {
	trees, closing := grown(l, lines)
	levels := trees.levels(l, closing)
	for _, i := range closing {
		if from, to := levels[l[i].From], levels[l[i].To]; !from.then(lines[i]).is(to) {
			return i
		}
	}
	return len(lines)
}

// grown: the trees, and the numbers of the edges that close rings.
func grown(l []api.Edge, lines []line) (*Graph, []int) {
	trees, part := laid(nil, nil), make(map[string]int)
	var closing []int
	for i, a := range l[:len(lines)] {
		if joined(part, a.From, a.To) {
			closing = append(closing, i)
			continue
		}
		trees.lay(a, lines[i])
	}
	return trees, closing
}

// joined: whether two names are in one part already; else they are now. part: of each name the number of its part.
func joined(part map[string]int, one, other string) bool {
	for _, name := range []string{one, other} {
		if _, known := part[name]; !known {
			part[name] = len(part)
		}
	}
	kept, gone := part[one], part[other]
	if kept == gone {
		return true
	}
	for name, number := range part {
		if number == gone {
			part[name] = kept
		}
	}
	return false
}

// levels: of the names between which rings are closed, what leads there from one name of their tree. What leads to others is not kept: the numbers may be very long.
func (g *Graph) levels(l []api.Edge, closing []int) map[string]line {
	wanted, levels := make(map[string]int), make(map[string]line)
	for _, i := range closing {
		wanted[l[i].From]++
		wanted[l[i].To]++
	}
	for _, i := range closing {
		if _, known := levels[l[i].From]; !known {
			g.climb(l[i].From, func(name string, level line) {
				if wanted[name] > 0 {
					levels[name] = level
				}
			})
		}
	}
	return levels
}

// climb goes through a tree from one of its names, and tells of each what leads there: one hop more than to the one ahead of it.
func (g *Graph) climb(from string, tell func(name string, level line)) {
	type place struct {
		name, ahead string
		level       line
	}
	for stack := []place{{name: from, level: same()}}; len(stack) > 0; {
		at := stack[len(stack)-1]
		stack = stack[:len(stack)-1]
		tell(at.name, at.level)
		for name, hop := range g.near[at.name] {
			if name != at.ahead {
				stack = append(stack, place{name, at.name, at.level.then(hop)})
			}
		}
	}
}
