package infer

import (
	"cubit/api"
	"cubit/house"
	"cubit/rat"
	"cubit/unc"
)

// What a node stands for; 0, where it is what its kids make of it.
const (
	SNumber   = 1 + iota // Value and Spread are those of its text
	SVariable            // Bound is its place in the list, Value that of its Value
	SUnit                // Unit; Value is its Factor
	SConst               // Const; Value and Spread are its own, times the factor of its unit
	SScale               // a product that is a number of a scale: Unit is that scale
)

// Sense: what a node of an expression stands for, with its dimension, for the layers that work expressions out. Value and Spread are in the coherent unit of the dimension; of a constant they are zero values, where they are not right.
type Sense struct {
	Kind          int
	Dim           api.Dim
	Value, Spread api.Rat
	Bound         int
	Unit          api.Unit
	Const         api.Const
}

// Senses: of each node; or the error of Dims, and its node.
func Senses(h *house.House, t api.Tree, l []api.Bound) ([]Sense, api.Errno, int) {
	sense, why, at := found(h, t, l)
	if why != api.OK {
		return nil, why, at
	}
	ahead := make(map[string]int) // of each constant the first node: products of long numbers are made once
	for i := range sense {
		s := &sense[i]
		switch s.Kind {
		case SNumber:
			s.Value, s.Spread = numberOf(t.Nodes[i].Text)
		case SVariable:
			s.Value = l[s.Bound].Value.Value
		case SUnit:
			s.Value = s.Unit.Factor
		case SConst:
			if first, seen := ahead[s.Const.Name]; seen {
				s.Value, s.Spread = sense[first].Value, sense[first].Spread
				continue
			}
			ahead[s.Const.Name] = i
			s.Value, s.Spread = constantOf(h, s.Const)
		}
	}
	return sense, api.OK, 0
}

// numberOf: the value and the spread of a number's text.
func numberOf(text string) (value, spread api.Rat) {
	m, _, _ := unc.Parse(text, "n")
	if len(m.Sources) == 0 {
		return m.Value, rat.Of(0)
	}
	return m.Value, m.Sources[0].By
}

// constantOf: its value and its spread, times the factor of its unit; a zero value for one that is not right.
func constantOf(h *house.House, c api.Const) (value, spread api.Rat) {
	parts, _ := partsOf(h, c)
	powers := make([]rat.Power, len(parts))
	for i, p := range parts {
		factor, _ := rat.Read(p.unit.Factor)
		powers[i] = rat.Power{Of: factor, Exp: p.exp}
	}
	return times(c.Value, powers), times(c.Spread, powers)
}

// times: a number times powers of numbers above 0.
func times(x api.Rat, l []rat.Power) api.Rat {
	f, _ := rat.Read(x)
	switch f.Sign() {
	case 0:
		return x
	case -1:
		return opposite(times(opposite(x), l))
	}
	product, e := rat.Product(append([]rat.Power{{Of: f, Exp: 1}}, l...))
	if e != api.OK {
		return api.Rat{}
	}
	all, _ := product.Tell()
	return all
}

// opposite: of what is no number a zero value.
func opposite(x api.Rat) api.Rat {
	y, _ := rat.Neg(x)
	return y
}
