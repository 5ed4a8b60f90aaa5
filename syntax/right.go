package syntax

import (
	"cubit/api"
	"cubit/lex"
)

// Right: can it be? The number of the node that can not.
func Right(t api.Tree) (api.Errno, int) {
	if len(t.Nodes) == 0 || len(t.Nodes) > api.MaxNodes {
		return api.ErrSize, 0
	}
	first, e, at := ordered(t.Nodes)
	if e != api.OK {
		return e, at
	}
	end := len(t.Nodes) - 1
	if last := t.Nodes[end]; last.Kind == api.NIn {
		for i := first[last.B]; i <= last.B; i++ {
			if !ofUnits(t.Nodes[i].Kind) {
				return api.ErrSyntax, i
			}
		}
	}
	for i, deep := range depths(t.Nodes) {
		if deep > api.MaxNest {
			return api.ErrDeep, i
		}
	}
	if first[end] != 0 {
		return api.ErrArg, end
	}
	return api.OK, 0
}

// ordered: of each node the first one that belongs to it; or the first node that can not be by itself, or at its place.
func ordered(nodes []api.Node) ([]int, api.Errno, int) {
	first := make([]int, len(nodes))
	for i, n := range nodes {
		begins, placed := begin(first[:i], n)
		switch {
		case !placed || n.Text != "" && !texted(n.Kind):
			return nil, api.ErrArg, i
		case !spelled(n):
			return nil, api.ErrForm, i
		case n.Kind == api.NIn && i < len(nodes)-1:
			return nil, api.ErrSyntax, i
		}
		first[i] = begins
	}
	return first, api.OK, 0
}

// begin: the first node that belongs to the one behind these, whose first ones are known; does it stand right behind just its kids?
func begin(first []int, n api.Node) (int, bool) {
	end := len(first) - 1
	switch kids(n.Kind) {
	case 0:
		return len(first), n.A == none && n.B == none
	case 1:
		if end >= 0 && n.A == end && n.B == none {
			return first[end], true
		}
	case 2:
		if end >= 0 && n.B == end && n.A == first[end]-1 && n.A >= 0 {
			return first[n.A], true
		}
	}
	return 0, false
}

// kids: how many a node of that kind has; none (-1) of what is no kind.
func kids(kind int) int {
	switch kind {
	case api.NNumber, api.NName:
		return 0
	case api.NNeg, api.NPow, api.NCall:
		return 1
	case api.NAdd, api.NSub, api.NMul, api.NQuo, api.NIn:
		return 2
	}
	return none
}

// texted: has a node of that kind a text?
func texted(kind int) bool {
	switch kind {
	case api.NNumber, api.NName, api.NPow, api.NCall:
		return true
	}
	return false
}

// ofUnits: may a node of that kind stand in a unit?
func ofUnits(kind int) bool {
	switch kind {
	case api.NNumber, api.NName, api.NMul, api.NQuo, api.NPow:
		return true
	}
	return false
}

// spelled: is a node's text such a one as its kind has?
func spelled(n api.Node) bool {
	switch n.Kind {
	case api.NNumber:
		_, _, e := lex.Number(n.Text)
		return e == api.OK
	case api.NName:
		return lex.Same(scanned(n.Text), []api.Token{{Kind: api.TName, Text: n.Text}, {Kind: api.TEnd}})
	case api.NPow:
		return lex.Same(scanned("a^"+n.Text), []api.Token{{Kind: api.TName, Text: "a"}, {Kind: api.TPower, Text: n.Text}, {Kind: api.TEnd}})
	case api.NCall:
		return function(n.Text)
	}
	return true
}

func scanned(text string) []api.Token {
	l, _, _ := lex.Scan(text)
	return l
}
