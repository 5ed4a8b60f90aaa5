package exact

import (
	"cubit/api"
	"cubit/infer"
	"cubit/rat"
)

// step: a node, what it stands for, and what its kids come to.
type step struct {
	node  api.Node
	sense infer.Sense
	a, b  rat.Frac
}

// kind: what the nodes of one kind do with what their kids come to.
type kind struct {
	does func(in arithmetic, s step) (rat.Frac, api.Errno)
}

// kinds: by their numbers.
func kinds() []kind {
	return []kind{
		api.NNumber: {leaf},
		api.NName:   {leaf},
		api.NNeg:    {func(in arithmetic, s step) (rat.Frac, api.Errno) { return in.neg(s.a), api.OK }},
		api.NAdd:    {func(in arithmetic, s step) (rat.Frac, api.Errno) { return in.add(s.a, s.b), api.OK }},
		api.NSub:    {func(in arithmetic, s step) (rat.Frac, api.Errno) { return in.sub(s.a, s.b), api.OK }},
		api.NMul:    {product},
		api.NQuo:    {func(in arithmetic, s step) (rat.Frac, api.Errno) { return in.quo(s.a, s.b) }},
		api.NPow:    {power},
		api.NCall:   {call},
		api.NIn:     {func(_ arithmetic, s step) (rat.Frac, api.Errno) { return s.a, api.OK }},
	}
}

// worker: works node after node out, each behind its kids.
type worker struct {
	in    arithmetic
	kinds []kind
	come  []rat.Frac // to what each node has come
}

// work: what a node comes to; ErrLarge, if that is not right.
func (w worker) work(at int, n api.Node, sense infer.Sense) (api.Rat, api.Errno) {
	s := step{node: n, sense: sense}
	if n.A >= 0 {
		s.a = w.come[n.A]
	}
	if n.B >= 0 {
		s.b = w.come[n.B]
	}
	value, why := w.kinds[n.Kind].does(w.in, s)
	if why != api.OK {
		return api.Rat{}, why
	}
	w.come[at] = value
	return value.Tell()
}

// leaf: a number, or a name.
func leaf(_ arithmetic, s step) (rat.Frac, api.Errno) {
	value, right := rat.Read(s.sense.Value)
	if !right { // a constant, times the factor of its unit
		return rat.Frac{}, api.ErrLarge
	}
	return value, api.OK
}

// product: of two numbers, or a number of a scale.
func product(in arithmetic, s step) (rat.Frac, api.Errno) {
	if s.sense.Kind == infer.SScale {
		return from(in, s.a, s.sense.Unit), api.OK
	}
	return in.mul(s.a, s.b), api.OK
}

func power(in arithmetic, s step) (rat.Frac, api.Errno) {
	exp, _ := infer.Power(s.node.Text)
	return in.pow(s.a, exp)
}

func call(in arithmetic, s step) (rat.Frac, api.Errno) {
	if s.node.Text == "sqrt" {
		return in.root(s.a)
	}
	return in.size(s.a), api.OK
}
