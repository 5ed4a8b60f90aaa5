package conv

import (
	"math"

	"cubit/api"
	"cubit/flo"
	"cubit/rat"
	"cubit/unc"
)

// number: what can be converted: one of a kind that can be reckoned with.
type number[N any] interface {
	Mul(N) N
	Add(N) N
	Sub(N) N
	Quo(N) N
}

// converted: how many of one unit x of another one are; as tells a unit's number as one of x's kind.
func converted[N number[N]](x N, from, to texted, as func(api.Rat) N) N {
	middle := x.Mul(as(from.Factor)).Add(as(from.Offset))
	return middle.Sub(as(to.Offset)).Quo(as(to.Factor))
}

// exactly: without a bound on its digits, as what is reckoned on the way may be large, and come back.
func exactly(r api.Rat) rat.Frac {
	f, _ := rat.Read(r)
	return f
}

// surely: likewise, without uncertainty.
func surely(r api.Rat) unc.Value { return unc.Sure(exactly(r)) }

// nearest: as a float.
func nearest(r api.Rat) rounded {
	f, why := flo.Near(r)
	return rounded{f, why}
}

// rounded: a float, as each step rounds it; or why there is none, which it keeps through all later steps.
type rounded struct {
	f   float64
	why api.Errno
}

// The conversions to float64 keep some machines from rounding two steps together, only once.
func (r rounded) Mul(by rounded) rounded { return r.then(by, float64(r.f*by.f)) }
func (r rounded) Add(by rounded) rounded { return r.then(by, float64(r.f+by.f)) }
func (r rounded) Sub(by rounded) rounded { return r.then(by, float64(r.f-by.f)) }

func (r rounded) Quo(by rounded) rounded {
	if by.f == 0 && by.why == api.OK && r.why == api.OK {
		return rounded{why: api.ErrZero}
	}
	return r.then(by, float64(r.f/by.f))
}

// then: what a step of two comes to.
func (r rounded) then(by rounded, f float64) rounded {
	switch {
	case r.why != api.OK:
		return r
	case by.why != api.OK:
		return by
	case math.IsInf(f, 0):
		return rounded{why: api.ErrInf}
	}
	return rounded{f: f}
}
