package show

import (
	"strings"

	"cubit/api"
	"cubit/house"
	"cubit/rat"
)

// mostUnits: in which one number may be told.
const mostUnits = 8

// falling: the factors of units, each below the one ahead of it; or what is wrong with the first unit that is at fault, or with the quantity. All faults of one unit go ahead of those of a later one, so that none is read before the one ahead of it is found right.
func falling(h *house.House, q api.Quant, units []string) ([]rat.Frac, api.Errno) {
	var factors []rat.Frac
	for _, text := range units {
		factor, why := nextFactor(h, q, text, factors)
		if why != api.OK {
			return nil, why
		}
		factors = append(factors, factor)
	}
	return factors, api.OK
}

// nextFactor: that of a unit behind others, whose factors are handed in.
func nextFactor(h *house.House, q api.Quant, text string, ahead []rat.Frac) (rat.Frac, api.Errno) {
	u, why := h.Unit(text)
	switch {
	case why != api.OK:
		return rat.Frac{}, why
	case !rat.Right(q.Value):
		return rat.Frac{}, api.ErrForm
	case u.Dim != q.Dim:
		return rat.Frac{}, api.ErrDim
	case u.Offset != rat.Of(0):
		return rat.Frac{}, api.ErrAffine
	}
	factor, _ := rat.Read(u.Factor)
	if len(ahead) > 0 && factor.Cmp(ahead[len(ahead)-1]) >= 0 {
		return rat.Frac{}, api.ErrArg
	}
	return factor, api.OK
}

// shared: how often each factor goes in whole into what those ahead of it have left, and how often the last one goes into the rest.
func shared(left rat.Frac, factors []rat.Frac) ([]api.Rat, api.Errno) {
	var shares []api.Rat
	for i, factor := range factors {
		often := left.Quo(factor)
		if i < len(factors)-1 {
			often = often.Floor()
		}
		share, why := often.Tell()
		if why != api.OK {
			return nil, why
		}
		left = left.Sub(often.Mul(factor))
		shares = append(shares, share)
	}
	return shares, api.OK
}

// listed: the shares that are not 0, each with its unit; the last one also where there would be none.
func listed(shares []api.Rat, units []string, digits int) string {
	var words []string
	last := len(shares) - 1
	for i, share := range shares {
		if share == rat.Of(0) && (i < last || len(words) > 0) {
			continue
		}
		text := share.Num // of a whole number
		if i == last {
			text, _ = Number(share, digits)
		}
		words = append(words, text, units[i])
	}
	return strings.Join(words, " ")
}
