package prefix

import (
	"cubit/api"
	"cubit/rat"
)

// power: what a prefix is made as, in whole numbers: 10 or 1024, and an exponent. It becomes a rational number when that is asked for.
type power struct{ of, exp int }

// times takes powers of one number alone: no prefix is made of both.
func (p power) times(q power) power { return power{of: p.of, exp: p.exp + q.exp} }

func (p power) inverse() power { return power{of: p.of, exp: -p.exp} }

func (p power) binary() bool { return p.of == 1024 }

// isStep: does it stand among those in which numbers are told, the powers of 1000 and of 1024?
func (p power) isStep() bool { return p.binary() || p.exp%3 == 0 }

func (p power) factor() api.Rat {
	r, _ := rat.Pow(rat.Of(int64(p.of)), p.exp) // far from too large
	return r
}
