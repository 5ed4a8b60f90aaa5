package float

import (
	"math"

	"cubit/api"
	"cubit/infer"
)

// deed: what a kind of node makes of the floats of its kids (of one alone b is 0), and of its text.
type deed func(a, b float64, text string) (float64, api.Errno)

// deeds: by the kinds of nodes; those without kids have none.
func deeds() []deed {
	return []deed{
		api.NNeg:  func(a, _ float64, _ string) (float64, api.Errno) { return -a, api.OK },
		api.NAdd:  func(a, b float64, _ string) (float64, api.Errno) { return a + b, api.OK },
		api.NSub:  func(a, b float64, _ string) (float64, api.Errno) { return a - b, api.OK },
		api.NMul:  func(a, b float64, _ string) (float64, api.Errno) { return a * b, api.OK },
		api.NQuo:  func(a, b float64, _ string) (float64, api.Errno) { return quotient(a, b) },
		api.NPow:  func(a, _ float64, text string) (float64, api.Errno) { return power(a, text) },
		api.NCall: func(a, _ float64, text string) (float64, api.Errno) { return call(a, text) },
		api.NIn:   func(a, _ float64, _ string) (float64, api.Errno) { return a, api.OK },
	}
}

func quotient(a, b float64) (float64, api.Errno) {
	if b == 0 {
		return 0, api.ErrZero
	}
	return a / b, api.OK
}

func power(a float64, text string) (float64, api.Errno) {
	exp, _ := infer.Power(text)
	product := 1.0
	for range max(exp, -exp) {
		product *= a
		if why := finite(product); why != api.OK {
			return 0, why
		}
	}
	if exp < 0 {
		return quotient(1, product)
	}
	return product, api.OK
}

func call(a float64, text string) (float64, api.Errno) {
	switch {
	case text == "abs":
		return math.Abs(a), api.OK
	case a < 0:
		return 0, api.ErrDomain
	}
	return math.Sqrt(a), api.OK
}
