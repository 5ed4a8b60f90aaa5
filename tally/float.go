package tally

import (
	"math"

	"cubit/api"
	"cubit/flo"
)

// MeanFloat, DevFloat: of floats, in the order of the list.
func MeanFloat(l []float64) (float64, api.Errno) {
	if why := enough(l, 1); why != api.OK {
		return 0, why
	}
	return flo.Kept(l...) / float64(len(l)), api.OK
}
func DevFloat(l []float64) (float64, api.Errno) {
	if why := enough(l, 2); why != api.OK {
		return 0, why
	}
	middle, _ := MeanFloat(l)
	squares := make([]float64, len(l))
	for i, x := range l {
		d := x - middle
		// The conversion keeps some machines from rounding product and sum together, only once.
		squares[i] = float64(d * d)
	}
	return math.Sqrt(flo.Kept(squares...) / float64(len(l)-1)), api.OK
}

// enough: are there as many as may be at the most, and at least so many?
func enough(l []float64, least int) api.Errno {
	switch {
	case len(l) > api.MaxFloats:
		return api.ErrSize
	case len(l) < least:
		return api.ErrFew
	}
	return api.OK
}
