package syntax

import (
	"strings"

	"cubit/api"
)

// Print: a tree's text.
func Print(t api.Tree) (string, api.Errno) {
	if e, _ := Right(t); e != api.OK {
		return "", e
	}
	w := writer{nodes: t.Nodes}
	w.write(len(t.Nodes) - 1)
	return w.text.String(), api.OK
}

type writer struct {
	nodes []api.Node
	text  strings.Builder
}

// How firmly a node's text holds together: where a firmer one must stand, it is put in parentheses.
const (
	asAny = iota
	asSum
	asProduct
	asSigned
	asAtom
)

func firm(kind int) int {
	switch kind {
	case api.NAdd, api.NSub:
		return asSum
	case api.NMul, api.NQuo:
		return asProduct
	case api.NNeg, api.NPow:
		return asSigned
	}
	return asAtom
}

func (w *writer) write(node int) {
	n := w.nodes[node]
	switch n.Kind {
	case api.NNeg:
		w.text.WriteString("-")
		w.inside(n.A, asSigned)
	case api.NAdd:
		w.pair(n, " + ", asSum, asProduct)
	case api.NSub:
		w.pair(n, " - ", asSum, asProduct)
	case api.NMul:
		w.pair(n, " * ", asProduct, asSigned)
	case api.NQuo:
		w.pair(n, " / ", asProduct, asSigned)
	case api.NIn:
		w.pair(n, " in ", asAny, asAny)
	case api.NPow:
		w.inside(n.A, asAtom)
		w.text.WriteString("^" + n.Text)
	case api.NCall:
		w.text.WriteString(n.Text + "(")
		w.write(n.A)
		w.text.WriteString(")")
	default:
		w.text.WriteString(n.Text)
	}
}

// pair: two with a sign between; how firm each of them must be.
func (w *writer) pair(n api.Node, sign string, left, right int) {
	w.inside(n.A, left)
	w.text.WriteString(sign)
	w.inside(n.B, right)
}

// inside: a node within another one's text.
func (w *writer) inside(node, least int) {
	if firm(w.nodes[node].Kind) >= least {
		w.write(node)
		return
	}
	w.text.WriteString("(")
	w.write(node)
	w.text.WriteString(")")
}
