package spread

import (
	"cubit/api"
	"cubit/infer"
	"cubit/rat"
	"cubit/unc"
)

// evaluator: works node after node out, each behind its kids, by the table of what each kind does.
type evaluator struct {
	*ground
	deeds []deed
}

// work: what a node comes to; ErrLarge or ErrSource, if that is not right.
func (e evaluator) work(at int) (api.Meas, api.Errno) {
	value, why := e.deeds[e.nodes[at].Kind](e.ground, at)
	if why != api.OK {
		return api.Meas{}, why
	}
	e.keep(at, value)
	return value.Tell()
}

// deed: what a kind of node makes of what its kids have come to.
type deed func(g *ground, at int) (unc.Value, api.Errno)

// deeds: by the kinds of nodes.
func deeds() []deed {
	return []deed{
		api.NNumber: (*ground).number,
		api.NName:   (*ground).name,
		api.NNeg:    func(g *ground, at int) (unc.Value, api.Errno) { return g.first(at).Neg(), api.OK },
		api.NAdd:    func(g *ground, at int) (unc.Value, api.Errno) { return g.first(at).Add(g.second(at)), api.OK },
		api.NSub:    func(g *ground, at int) (unc.Value, api.Errno) { return g.first(at).Sub(g.second(at)), api.OK },
		api.NMul:    product,
		api.NQuo:    func(g *ground, at int) (unc.Value, api.Errno) { return quotient(g.first(at), g.second(at)) },
		api.NPow:    power,
		api.NCall:   call,
		api.NIn:     func(g *ground, at int) (unc.Value, api.Errno) { return g.first(at), api.OK },
	}
}

// product: of two values, or a number of a scale.
func product(g *ground, at int) (unc.Value, api.Errno) {
	x, s := g.first(at), g.senses[at]
	if s.Kind != infer.SScale {
		return x.Mul(g.second(at)), api.OK
	}
	factor := fraction(s.Unit.Factor)
	return x.Mapped(x.At().Mul(factor).Add(fraction(s.Unit.Offset)), factor), api.OK
}

func quotient(x, y unc.Value) (unc.Value, api.Errno) {
	if y.At().Sign() == 0 {
		return unc.Value{}, api.ErrZero
	}
	return x.Quo(y), api.OK
}

func power(g *ground, at int) (unc.Value, api.Errno) {
	exp, _ := infer.Power(g.nodes[at].Text)
	return g.first(at).Pow(exp)
}

func call(g *ground, at int) (unc.Value, api.Errno) {
	x := g.first(at)
	switch {
	case g.nodes[at].Text == "sqrt":
		return root(x)
	case x.At().Sign() < 0:
		return x.Neg(), api.OK
	}
	return x, api.OK
}

// root: where it is 0, it has no slope.
func root(x unc.Value) (unc.Value, api.Errno) {
	at, is := x.At().SquareRoot()
	switch {
	case !is:
		return unc.Value{}, api.ErrDomain
	case x.IsSure():
		return unc.Sure(at), api.OK
	case at.Sign() == 0:
		return unc.Value{}, api.ErrZero
	}
	return x.Mapped(at, slopeOfRoot(at)), api.OK
}

// slopeOfRoot: 1 divided by twice the root.
func slopeOfRoot(root rat.Frac) rat.Frac { return root.Add(root).Inv() }
