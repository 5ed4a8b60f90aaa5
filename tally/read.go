package tally

import (
	"slices"

	"cubit/api"
	"cubit/rat"
)

// read: numbers, of which there must be so many: ErrForm, ErrFew.
func read(l []api.Rat, least int) ([]rat.Frac, api.Errno) {
	all := make([]rat.Frac, len(l))
	for i, r := range l {
		f, right := rat.Read(r)
		if !right {
			return nil, api.ErrForm
		}
		all[i] = f
	}
	if len(l) < least {
		return nil, api.ErrFew
	}
	return all, api.OK
}

// readPairs: numbers two by two, of which there must be so many: ErrForm, ErrArg, ErrFew.
func readPairs(a, b []api.Rat, least int) (x, y []rat.Frac, why api.Errno) {
	if x, why = read(a, 0); why != api.OK {
		return nil, nil, why
	}
	if y, why = read(b, 0); why != api.OK {
		return nil, nil, why
	}
	switch {
	case len(x) != len(y):
		return nil, nil, api.ErrArg
	case len(x) < least:
		return nil, nil, api.ErrFew
	}
	return x, y, api.OK
}

// mayWeigh: are all above 0? One that is 0 is told ahead of one below it.
func mayWeigh(stds []rat.Frac) api.Errno {
	has := func(sign int) bool {
		return slices.ContainsFunc(stds, func(std rat.Frac) bool { return std.Sign() == sign })
	}
	switch {
	case has(0):
		return api.ErrZero
	case has(-1):
		return api.ErrBelow
	}
	return api.OK
}

// areAlike: are all the same? There must be one.
func areAlike(l []rat.Frac) bool {
	differs := func(f rat.Frac) bool { return f.Cmp(l[0]) != 0 }
	return !slices.ContainsFunc(l, differs)
}
