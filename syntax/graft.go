package syntax

import "cubit/api"

// Graft: a tree, another one in the place of each name that is this one.
func Graft(t api.Tree, name string, by api.Tree) (api.Tree, api.Errno) {
	for _, tree := range []api.Tree{t, by} {
		if e, _ := Right(tree); e != api.OK {
			return api.Tree{}, e
		}
	}
	if by.Nodes[len(by.Nodes)-1].Kind == api.NIn || toldIn(t.Nodes, name) {
		return api.Tree{}, api.ErrSyntax
	}
	// More nodes than may be are not even made: they could be far more.
	if len(t.Nodes)+count(t.Nodes, name)*(len(by.Nodes)-1) > api.MaxNodes {
		return api.Tree{}, api.ErrSize
	}
	nodes := grafted(t.Nodes, name, by.Nodes)
	if e := fits(nodes); e != api.OK {
		return api.Tree{}, e
	}
	return api.Tree{Nodes: nodes}, api.OK
}

func named(n api.Node, name string) bool { return n.Kind == api.NName && n.Text == name }

func count(nodes []api.Node, name string) int {
	found := 0
	for _, n := range nodes {
		if named(n, name) {
			found++
		}
	}
	return found
}

// toldIn: does that name stand in the unit in which a whole is told? All behind the first part of in, but in itself, is that unit.
func toldIn(nodes []api.Node, name string) bool {
	last := nodes[len(nodes)-1]
	return last.Kind == api.NIn && count(nodes[last.A+1:], name) > 0
}

func grafted(nodes []api.Node, name string, by []api.Node) []api.Node {
	var all []api.Node
	became := make([]int, len(nodes)) // the new number of each node
	for i, n := range nodes {
		if named(n, name) {
			all = appended(all, by)
		} else {
			all = append(all, renumbered(n, func(kid int) int { return became[kid] }))
		}
		became[i] = len(all) - 1
	}
	return all
}

// appended: nodes, and those of a tree behind them.
func appended(all, tree []api.Node) []api.Node {
	ahead := len(all)
	for _, n := range tree {
		all = append(all, renumbered(n, func(kid int) int { return ahead + kid }))
	}
	return all
}

// renumbered: a node whose kids have new numbers.
func renumbered(n api.Node, number func(int) int) api.Node {
	if n.A != none {
		n.A = number(n.A)
	}
	if n.B != none {
		n.B = number(n.B)
	}
	return n
}
