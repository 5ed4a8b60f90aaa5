package spread

import (
	"slices"
	"strconv"

	"cubit/api"
	"cubit/house"
	"cubit/infer"
	"cubit/rat"
	"cubit/unc"
)

// ground: what the evaluator shares with its table of deeds: the nodes, what they stand for, and to what those have come for which another one waits.
type ground struct {
	nodes  []api.Node
	senses []infer.Sense
	bound  []api.Bound
	consts []api.Const
	come   []unc.Value
	known  map[word]unc.Value // names that have stood ahead: long lists of sources are read once
}

// word: a name, and as what it is read: within the unit of in a variable's name may be a unit's.
type word struct {
	kind int
	text string
}

func newGround(h *house.House, t api.Tree, l []api.Bound, senses []infer.Sense) *ground {
	return &ground{t.Nodes, senses, l, h.Consts(), make([]unc.Value, len(senses)), make(map[word]unc.Value)}
}

// first: what A of a node has come to. second: what B has.
func (g *ground) first(at int) unc.Value  { return g.come[g.nodes[at].A] }
func (g *ground) second(at int) unc.Value { return g.come[g.nodes[at].B] }

// keep: a node's value, in the place of those of its kids, for which nobody waits any more.
func (g *ground) keep(at int, value unc.Value) {
	n := g.nodes[at]
	for _, kid := range []int{n.A, n.B} {
		if kid >= 0 {
			g.come[kid] = unc.Value{}
		}
	}
	g.come[at] = value
}

// number: with a source of its own, if it is uncertain.
func (g *ground) number(at int) (unc.Value, api.Errno) {
	s := g.senses[at]
	return sourced(s.Value, s.Spread, "#"+strconv.Itoa(at)), api.OK
}

// name: what it stands for.
func (g *ground) name(at int) (unc.Value, api.Errno) {
	key := word{g.senses[at].Kind, g.nodes[at].Text}
	if value, seen := g.known[key]; seen {
		return value, api.OK
	}
	value, why := g.named(g.senses[at])
	if why != api.OK {
		return unc.Value{}, why
	}
	g.known[key] = value
	return value, api.OK
}

func (g *ground) named(s infer.Sense) (unc.Value, api.Errno) {
	switch s.Kind {
	case infer.SVariable:
		value, _ := unc.Read(g.bound[s.Bound].Value)
		return value, api.OK
	case infer.SConst:
		return g.constant(s)
	}
	return sure(s.Value), api.OK
}

// constant: with its spread by a source of its name.
func (g *ground) constant(s infer.Sense) (unc.Value, api.Errno) {
	if !rat.Right(s.Value) || !rat.Right(s.Spread) { // times the factor of its unit
		return unc.Value{}, api.ErrLarge
	}
	return sourced(s.Value, s.Spread, g.sourceOf(s.Const)), api.OK
}

// sourceOf: a constant's name, or its place, where that is no source's name.
func (g *ground) sourceOf(c api.Const) string {
	if _, why := unc.New(rat.Of(0), rat.Of(0), c.Name); why == api.OK {
		return c.Name
	}
	place := slices.IndexFunc(g.consts, func(other api.Const) bool { return other.Name == c.Name })
	return "@" + strconv.Itoa(place)
}

// sourced: a number that is right, with a source, if it is uncertain.
func sourced(at, by api.Rat, name string) unc.Value {
	m, _ := unc.New(at, by, name)
	value, _ := unc.Read(m)
	return value
}

// sure: a number that is right, without uncertainty.
func sure(x api.Rat) unc.Value { return unc.Sure(fraction(x)) }

func fraction(x api.Rat) rat.Frac {
	f, _ := rat.Read(x)
	return f
}
