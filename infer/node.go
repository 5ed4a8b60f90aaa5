package infer

import "cubit/api"

// node: of an expression; each kind has a type of its own.
type node interface {
	at() int      // its number in the tree
	kids() []node // in their order
}

type place int

func (p place) at() int { return int(p) }

// A node without kids, with one, with two.
type (
	leaf struct {
		place
		text string
	}
	lone struct {
		place
		a node
	}
	pair struct {
		place
		a, b node
	}
)

func (leaf) kids() []node   { return nil }
func (n lone) kids() []node { return []node{n.a} }
func (n pair) kids() []node { return []node{n.a, n.b} }

type (
	number     struct{ leaf }
	name       struct{ leaf }
	minus      struct{ lone }
	sum        struct{ pair }
	difference struct{ pair }
	product    struct{ pair }
	quotient   struct{ pair }
	power      struct {
		lone
		text string
	}
	call struct {
		lone
		text string
	}
	told struct{ pair } // in a unit
)

// whole: the last node of a tree that is right, and by it all others.
func whole(t api.Tree) node {
	l := make([]node, len(t.Nodes))
	for i, n := range t.Nodes {
		l[i] = typed(n, i, l)
	}
	return l[len(l)-1]
}

// typed: a node of a tree, by those ahead of it.
func typed(n api.Node, at int, ahead []node) node {
	one := func() lone { return lone{place(at), ahead[n.A]} }
	two := func() pair { return pair{place(at), ahead[n.A], ahead[n.B]} }
	switch n.Kind {
	case api.NName:
		return name{leaf{place(at), n.Text}}
	case api.NNeg:
		return minus{one()}
	case api.NAdd:
		return sum{two()}
	case api.NSub:
		return difference{two()}
	case api.NMul:
		return product{two()}
	case api.NQuo:
		return quotient{two()}
	case api.NPow:
		return power{one(), n.Text}
	case api.NCall:
		return call{one(), n.Text}
	case api.NIn:
		return told{two()}
	}
	return number{leaf{place(at), n.Text}}
}
