package float

import (
	"math"

	"cubit/api"
	"cubit/flo"
	"cubit/infer"
)

// node: of an expression: what it comes to, where those ahead of it have come to these floats.
type node interface {
	float(ahead []float64) (float64, api.Errno)
}

// leaf: a number, or a name, by its value.
type leaf struct{ value api.Rat }

// scaled: a number of a scale.
type scaled struct {
	a     int
	scale api.Unit
}

// joined: what is made of one or two others.
type joined struct {
	api.Node
	does deed
}

// meant: a node by what it stands for.
func meant(n api.Node, s infer.Sense, does []deed) node {
	switch s.Kind {
	case 0:
		return joined{n, does[n.Kind]}
	case infer.SScale:
		return scaled{n.A, s.Unit}
	}
	return leaf{s.Value}
}

// comeTo: a finite float, or why there is none.
func comeTo(n node, ahead []float64) (float64, api.Errno) {
	f, why := n.float(ahead)
	if why == api.OK {
		why = finite(f)
	}
	if why != api.OK {
		return 0, why
	}
	return f, api.OK
}

func finite(f float64) api.Errno {
	if math.IsInf(f, 0) || math.IsNaN(f) {
		return api.ErrInf
	}
	return api.OK
}

func (n leaf) float([]float64) (float64, api.Errno) {
	if n.value == (api.Rat{}) { // a constant that is too large, times the factor of its unit
		return 0, api.ErrLarge
	}
	return flo.Near(n.value)
}

func (n scaled) float(ahead []float64) (float64, api.Errno) {
	factor, why := flo.Near(n.scale.Factor)
	if why != api.OK {
		return 0, why
	}
	offset, why := flo.Near(n.scale.Offset)
	if why != api.OK {
		return 0, why
	}
	// Without the conversion both steps could be rounded as one.
	return float64(ahead[n.a]*factor) + offset, api.OK
}

func (n joined) float(ahead []float64) (float64, api.Errno) {
	a, b := ahead[n.A], 0.0
	if n.B >= 0 {
		b = ahead[n.B]
	}
	return n.does(a, b, n.Text)
}
