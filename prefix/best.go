package prefix

import (
	"cmp"
	"slices"

	"cubit/api"
	"cubit/rat"
)

// bare: what stands where no prefix does.
func bare() row { return row{made: func() power { return power{of: 10} }} }

func (r row) isBare() bool { return r.name == "" }

// steps: the powers of 1000, or of 1024, and what is bare, the greatest first.
func steps(binary bool) []row {
	l := []row{bare()}
	for _, r := range rows() {
		if p := r.made(); p.binary() == binary && p.isStep() {
			l = append(l, r)
		}
	}
	slices.SortFunc(l, func(a, b row) int { return cmp.Compare(b.made().exp, a.made().exp) })
	return l
}

// fitting: the greatest step that is not above a size, or the least of all.
func fitting(size api.Rat, binary bool) row {
	l := steps(binary)
	for _, r := range l {
		if order, _ := rat.Cmp(r.made().factor(), size); order <= 0 {
			return r
		}
	}
	return l[len(l)-1]
}

// Best: the prefix with which a number is told best, and the number by its factor.
func Best(r api.Rat, binary bool) (api.Prefix, api.Rat, api.Errno) {
	sign, e := rat.Sign(r)
	if e != api.OK {
		return api.Prefix{}, api.Rat{}, e
	}
	size := r
	if sign < 0 {
		size, _ = rat.Neg(r)
	}
	best := fitting(size, binary)
	if sign == 0 || best.isBare() {
		return api.Prefix{}, r, api.OK
	}
	number, e := rat.Quo(r, best.made().factor())
	if e != api.OK {
		return api.Prefix{}, api.Rat{}, e
	}
	return best.told(), number, api.OK
}
