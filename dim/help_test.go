package dim_test

import (
	"math"
	"math/rand"
	"testing"

	"cubit/api"
	"cubit/dim"
)

const most = api.MaxExp

// wrongs: dimensions each of which breaks the bounds at one place.
func wrongs() []api.Dim {
	var l []api.Dim
	for place := range len(api.Dim{}) {
		for _, exp := range []int{most + 1, -most - 1, math.MaxInt, math.MinInt, math.MinInt + 1, 1 << 40} {
			d := api.Dim{1, 2, 3, 4, 5, 6, 7, 8}
			d[place] = exp
			l = append(l, d)
		}
	}
	return l
}

// all: a dimension with the same exponent at all places.
func all(exp int) api.Dim { return api.Dim{exp, exp, exp, exp, exp, exp, exp, exp} }

// edges: one exponent at its bounds, or near 0, at each place.
func edges() []api.Dim {
	l := []api.Dim{{}, all(most), all(-most), all(1)}
	for place := range len(api.Dim{}) {
		for _, exp := range []int{most, -most, 1, -1, 10, -10} {
			d := api.Dim{}
			d[place] = exp
			l = append(l, d)
		}
	}
	return l
}

// chance: a dimension with exponents up to a bound, some of them 0.
func chance(r *rand.Rand, bound int) api.Dim {
	d := api.Dim{}
	for place := range d {
		if r.Intn(3) > 0 {
			d[place] = r.Intn(2*bound+1) - bound
		}
	}
	return d
}

// whole: exponents so far as no sum leaves its type's range; what of them is told.
func whole(d api.Dim) (api.Dim, api.Errno) {
	for _, exp := range d {
		if exp < -99 || exp > 99 {
			return api.Dim{}, api.ErrExp
		}
	}
	return d, api.OK
}

func check(t *testing.T, name string, got api.Dim, e api.Errno, want api.Dim, why api.Errno) {
	t.Helper()
	if got != want || e != why {
		t.Errorf("%s = %v, %d, not %v, %d", name, got, e, want, why)
	}
}

func checkMul(t *testing.T, want api.Dim, why api.Errno, l ...api.Dim) {
	t.Helper()
	got, e := dim.Mul(l...)
	check(t, "Mul", got, e, want, why)
}

func checkQuo(t *testing.T, a, b, want api.Dim, why api.Errno) {
	t.Helper()
	got, e := dim.Quo(a, b)
	check(t, "Quo", got, e, want, why)
}

func checkPow(t *testing.T, d api.Dim, n int, want api.Dim, why api.Errno) {
	t.Helper()
	got, e := dim.Pow(d, n)
	check(t, "Pow", got, e, want, why)
}

func checkRoot(t *testing.T, d api.Dim, n int, want api.Dim, why api.Errno) {
	t.Helper()
	got, e := dim.Root(d, n)
	check(t, "Root", got, e, want, why)
}
