package syntax

import "cubit/api"

// source: what the reader asks for tokens.
type source interface {
	look() api.Token // the one at hand
	take() api.Token // likewise, and the one behind it comes to hand
}

// line: tokens that stand in a list. The last one is the end, which the reader only looks at, or gives up at.
type line struct {
	tokens []api.Token
}

func (l *line) look() api.Token { return l.tokens[0] }

func (l *line) take() api.Token {
	t := l.tokens[0]
	l.tokens = l.tokens[1:]
	return t
}

// part: what has been read whole: its node, and its bytes, parentheses around it too.
type part struct {
	node     int
	from, to int
}

// waiting: what has begun, and waits for the part behind it.
type waiting interface {
	binds() int
}

type (
	opened struct{ from int } // a parenthesis
	called struct {           // a function
		from int
		text string
	}
	told  struct{ left part } // in a unit
	added struct {
		kind int
		left part
	}
	times struct {
		kind int
		left part
	}
	minus struct{ from int }
)

// How tightly each holds the part behind it. What is opened holds nothing until it is closed.
const (
	byOpening = iota
	byTelling
	byAdding
	byTimes
	byMinus
)

func (opened) binds() int { return byOpening }
func (called) binds() int { return byOpening }
func (told) binds() int   { return byTelling }
func (added) binds() int  { return byAdding }
func (times) binds() int  { return byTimes }
func (minus) binds() int  { return byMinus }

// reader: parentheses may be nested as deep as a text is long; so what waits stands in a list, and not in calls within calls.
type reader struct {
	source
	nodes []api.Node
	waits []waiting
	open  int  // how many of those wait to be closed
	units bool // behind in
}

// whole: the nodes of all tokens, in the order of reading.
func whole(tokens source) []api.Node {
	r := &reader{source: tokens}
	p := r.power()
	for r.look().Kind != api.TEnd || r.open > 0 {
		if is(r.look(), ")") && r.open > 0 {
			p = r.closed(p)
			continue
		}
		r.between(p)
		p = r.power()
	}
	r.settle(p, byTelling)
	return r.nodes
}

func is(t api.Token, sign string) bool { return t.Kind == api.TSign && t.Text == sign }

// between: what stands between a part and the one that must follow.
func (r *reader) between(p part) {
	switch t := r.look(); {
	case is(t, "*"):
		r.wait(times{api.NMul, r.settle(p, byTimes)})
	case is(t, "/"):
		r.wait(times{api.NQuo, r.settle(p, byTimes)})
	case is(t, "+") && !r.units:
		r.wait(added{api.NAdd, r.settle(p, byAdding)})
	case is(t, "-") && !r.units:
		r.wait(added{api.NSub, r.settle(p, byAdding)})
	case is(t, "in") && !r.units && r.open == 0:
		r.wait(told{r.settle(p, byAdding)})
		r.units = true
	case t.Kind == api.TName || is(t, "("):
		r.wait(times{api.NMul, r.settle(p, byTimes)})
		return // side by side: the token belongs to what follows
	default:
		panic(fault{t.At})
	}
	r.take()
}

// power: the next atom, perhaps raised; what opens ahead of it waits.
func (r *reader) power() part {
	for {
		switch t := r.take(); {
		case t.Kind == api.TNumber:
			return r.raised(r.leaf(api.NNumber, t))
		case t.Kind == api.TName && r.calls(t):
			r.take()
			r.opens(called{t.At, t.Text})
		case t.Kind == api.TName:
			return r.raised(r.leaf(api.NName, t))
		case is(t, "("):
			r.opens(opened{t.At})
		case is(t, "-") && !r.units:
			r.wait(minus{t.At})
		default:
			panic(fault{t.At})
		}
	}
}

// calls: is a name, behind which the reader stands, that of a function which is called?
func (r *reader) calls(name api.Token) bool {
	return function(name.Text) && !r.units && is(r.look(), "(")
}

func function(name string) bool { return name == "sqrt" || name == "abs" }

// raised: a part, to a power, if one stands behind it.
func (r *reader) raised(p part) part {
	if r.look().Kind != api.TPower {
		return p
	}
	t := r.take()
	return r.node(api.Node{Kind: api.NPow, Text: t.Text, A: p.node, B: none}, p.from, t.At+t.Len)
}

// closed: what a parenthesis closes, perhaps raised.
func (r *reader) closed(p part) part {
	p = r.settle(p, byAdding)
	t := r.take()
	p.to = t.At + t.Len
	r.open--
	return r.raised(r.join(p))
}

// settle: a part with all ahead of it that holds it so tightly, or more.
func (r *reader) settle(p part, tightly int) part {
	for len(r.waits) > 0 && r.last().binds() >= tightly {
		p = r.join(p)
	}
	return p
}

func (r *reader) wait(w waiting) { r.waits = append(r.waits, w) }

func (r *reader) opens(w waiting) {
	r.wait(w)
	r.open++
}

func (r *reader) last() waiting { return r.waits[len(r.waits)-1] }

// join: the part for which the last one waited, and it.
func (r *reader) join(p part) part {
	last := r.last()
	r.waits = r.waits[:len(r.waits)-1]
	switch w := last.(type) {
	case opened:
		return part{p.node, w.from, p.to}
	case called:
		return r.node(api.Node{Kind: api.NCall, Text: w.text, A: p.node, B: none}, w.from, p.to)
	case minus:
		return r.node(api.Node{Kind: api.NNeg, A: p.node, B: none}, w.from, p.to)
	case times:
		return r.node(api.Node{Kind: w.kind, A: w.left.node, B: p.node}, w.left.from, p.to)
	case added:
		return r.node(api.Node{Kind: w.kind, A: w.left.node, B: p.node}, w.left.from, p.to)
	case told:
		return r.node(api.Node{Kind: api.NIn, A: w.left.node, B: p.node}, w.left.from, p.to)
	}
	return p
}

func (r *reader) leaf(kind int, t api.Token) part {
	return r.node(api.Node{Kind: kind, Text: t.Text, A: none, B: none}, t.At, t.At+t.Len)
}

// node: a new one, behind all those of its kids.
func (r *reader) node(n api.Node, from, to int) part {
	n.At, n.Len = from, to-from
	r.nodes = append(r.nodes, n)
	return part{len(r.nodes) - 1, from, to}
}
