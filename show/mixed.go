package show

import (
	"slices"
	"strings"

	"cubit/api"
	"cubit/house"
	"cubit/rat"
)

// mostUnits: in which one number may be told.
const mostUnits = 8

// falling: the factors of units, each below the one ahead of it; or what is wrong with the units, or the quantity.
func falling(h *house.House, q api.Quant, units []string) ([]rat.Frac, api.Errno) {
	all, why := unitsOf(h, units)
	switch {
	case why != api.OK:
		return nil, why
	case !rat.Right(q.Value):
		return nil, api.ErrForm
	case slices.ContainsFunc(all, func(u api.Unit) bool { return u.Dim != q.Dim }):
		return nil, api.ErrDim
	case slices.ContainsFunc(all, func(u api.Unit) bool { return u.Offset != rat.Of(0) }):
		return nil, api.ErrAffine
	}
	var factors []rat.Frac
	for i, u := range all {
		factor, _ := rat.Read(u.Factor)
		if i > 0 && factor.Cmp(factors[i-1]) >= 0 {
			return nil, api.ErrArg
		}
		factors = append(factors, factor)
	}
	return factors, api.OK
}

func unitsOf(h *house.House, texts []string) ([]api.Unit, api.Errno) {
	var all []api.Unit
	for _, text := range texts {
		u, why := h.Unit(text)
		if why != api.OK {
			return nil, why
		}
		all = append(all, u)
	}
	return all, api.OK
}

// shared: how often each factor goes in whole into what those ahead of it have left, and how often the last one goes into the rest.
func shared(left rat.Frac, factors []rat.Frac) ([]api.Rat, api.Errno) {
	var shares []api.Rat
	for i, factor := range factors {
		often := left.Quo(factor)
		if i < len(factors)-1 {
			often = often.Floor()
		}
		share, why := often.Tell()
		if why != api.OK {
			return nil, why
		}
		left = left.Sub(often.Mul(factor))
		shares = append(shares, share)
	}
	return shares, api.OK
}

// listed: the shares that are not 0, each with its unit; the last one also where there would be none.
func listed(shares []api.Rat, units []string, digits int) string {
	var words []string
	last := len(shares) - 1
	for i, share := range shares {
		if share == rat.Of(0) && (i < last || len(words) > 0) {
			continue
		}
		text := share.Num // of a whole number
		if i == last {
			text, _ = Number(share, digits)
		}
		words = append(words, text, units[i])
	}
	return strings.Join(words, " ")
}
