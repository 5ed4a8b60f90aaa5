package dim_test

import (
	"math"
	"math/rand"
	"slices"
	"testing"

	"cubit/api"
	"cubit/dim"
)

// P5.1.
func TestRight(t *testing.T) {
	for _, d := range edges() {
		if !dim.Right(d) {
			t.Errorf("%v is not right", d)
		}
	}
	for _, d := range wrongs() {
		if dim.Right(d) {
			t.Errorf("%v is right", d)
		}
	}
}

// P5.1: ErrArg is ahead of all else, also of ErrExp, ErrRoot, and where the result would be right.
func TestWrong(t *testing.T) {
	none := api.Dim{}
	for _, w := range wrongs() {
		checkMul(t, none, api.ErrArg, w)
		checkMul(t, none, api.ErrArg, all(most), all(most), w)
		checkMul(t, none, api.ErrArg, w, all(-1), all(1))
		checkQuo(t, w, none, none, api.ErrArg)
		checkQuo(t, none, w, none, api.ErrArg)
		checkQuo(t, w, w, none, api.ErrArg)
		for _, n := range []int{0, 1, -1, 2, 200, math.MaxInt, math.MinInt} {
			checkPow(t, w, n, none, api.ErrArg)
			checkRoot(t, w, n, none, api.ErrArg)
		}
		if s, e := dim.Print(w); s != "" || e != api.ErrArg {
			t.Errorf("Print(%v) = %q, %d", w, s, e)
		}
	}
}

// P5.2.
func TestMul(t *testing.T) {
	checkMul(t, api.Dim{}, api.OK)
	for _, d := range edges() {
		checkMul(t, d, api.OK, d)
		checkMul(t, d, api.OK, api.Dim{}, d, api.Dim{})
	}
	checkMul(t, api.Dim{4, 6, -3, 0, 5, 0, 0, 9}, api.OK, api.Dim{1, 2, 3, 0, 5, -1, 0, 8}, api.Dim{3, 4, -6, 0, 0, 1, 0, 1})
	for place := range len(api.Dim{}) {
		up, down, top := api.Dim{}, api.Dim{}, api.Dim{}
		up[place], down[place], top[place] = 1, -1, most
		checkMul(t, api.Dim{}, api.ErrExp, top, up)
		checkMul(t, top, api.OK, top, up, down) // only the result counts
		checkMul(t, top, api.OK, top, top, down, top, mustPow(t, top, -1), up, mustPow(t, top, -1))
		checkMul(t, api.Dim{}, api.ErrExp, mustPow(t, top, -1), down)
	}
	l := []api.Dim{{1, 2}, {3, 4}, {5, 6}}
	checkMul(t, api.Dim{4, 6}, api.OK, l[:2]...)
	if !slices.Equal(l, []api.Dim{{1, 2}, {3, 4}, {5, 6}}) {
		t.Error("Mul has changed what it was given", l)
	}
	if got, e := dim.Mul(make([]api.Dim, 1<<16)...); got != (api.Dim{}) || e != api.OK {
		t.Error(got, e)
	}
}

func mustPow(t *testing.T, d api.Dim, n int) api.Dim {
	t.Helper()
	p, e := dim.Pow(d, n)
	if e != api.OK {
		t.Fatal(d, n, e)
	}
	return p
}

// P5.2: with exponents up to their bounds, against sums of whole numbers.
func TestAgainstSums(t *testing.T) {
	r := rand.New(rand.NewSource(52))
	for range 5000 {
		bound := []int{3, 40, most}[r.Intn(3)]
		a, b, n := chance(r, bound), chance(r, bound), r.Intn(9)-4
		sum, less, times := a, a, a
		for place := range a {
			sum[place] += b[place]
			less[place] -= b[place]
			times[place] *= n
		}
		want, why := whole(sum)
		checkMul(t, want, why, a, b)
		want, why = whole(less)
		checkQuo(t, a, b, want, why)
		want, why = whole(times)
		checkPow(t, a, n, want, why)
	}
}

// P5.2.
func TestQuo(t *testing.T) {
	checkQuo(t, api.Dim{1}, api.Dim{0, 0, 1}, api.Dim{1, 0, -1}, api.OK)
	checkQuo(t, all(most), all(most), api.Dim{}, api.OK)
	checkQuo(t, all(most), all(0), all(most), api.OK)
	checkQuo(t, all(0), all(most), all(-most), api.OK)
	for place := range len(api.Dim{}) {
		top, step := api.Dim{}, api.Dim{}
		top[place], step[place] = most, -1
		checkQuo(t, top, step, api.Dim{}, api.ErrExp)
		checkQuo(t, mustPow(t, top, -1), mustPow(t, step, -1), api.Dim{}, api.ErrExp)
		checkQuo(t, mustPow(t, step, -1), mustPow(t, top, -1), api.Dim{}, api.ErrExp)
	}
}

// P5.2: every n.
func TestPow(t *testing.T) {
	great := []int{most + 1, -most - 1, 1 << 32, -1 << 32, 1 << 62, -1 << 62, 1 << 63 / 3, math.MaxInt, math.MinInt, math.MinInt + 1}
	for _, n := range append(great, 0, 1, -1, most, -most) {
		checkPow(t, api.Dim{}, n, api.Dim{}, api.OK)
	}
	for _, d := range edges()[1:] {
		for _, n := range great {
			checkPow(t, d, n, api.Dim{}, api.ErrExp)
		}
		checkPow(t, d, 0, api.Dim{}, api.OK)
		checkPow(t, d, 1, d, api.OK)
	}
	checkPow(t, all(1), most, all(most), api.OK)
	checkPow(t, all(1), -most, all(-most), api.OK)
	checkPow(t, all(-1), most, all(-most), api.OK)
	checkPow(t, all(33), 3, all(99), api.OK)
	checkPow(t, all(50), 2, api.Dim{}, api.ErrExp)
	checkPow(t, all(50), -2, api.Dim{}, api.ErrExp)
	checkPow(t, api.Dim{50}, 2, api.Dim{}, api.ErrExp)
	checkPow(t, api.Dim{1, 0, -2, 0, 0, 0, 0, 3}, -3, api.Dim{-3, 0, 6, 0, 0, 0, 0, -9}, api.OK)
}

// P5.2.
func TestRoot(t *testing.T) {
	for _, n := range []int{0, -1, -2, math.MinInt} {
		checkRoot(t, api.Dim{}, n, api.Dim{}, api.ErrArg)
		checkRoot(t, api.Dim{1}, n, api.Dim{}, api.ErrArg)
	}
	for _, n := range []int{1, 2, most, most + 1, math.MaxInt} {
		checkRoot(t, api.Dim{}, n, api.Dim{}, api.OK)
	}
	for _, d := range edges() {
		checkRoot(t, d, 1, d, api.OK)
	}
	for place := range len(api.Dim{}) {
		d := all(6)
		d[place] = 7
		checkRoot(t, d, 2, api.Dim{}, api.ErrRoot)
		d[place] = -7
		checkRoot(t, d, 3, api.Dim{}, api.ErrRoot)
		checkRoot(t, d, math.MaxInt, api.Dim{}, api.ErrRoot)
		d[place] = -12
		want := all(2)
		want[place] = -4
		checkRoot(t, d, 3, want, api.OK)
	}
	checkRoot(t, api.Dim{2, 0, -4}, 2, api.Dim{1, 0, -2}, api.OK)
	checkRoot(t, api.Dim{1}, 2, api.Dim{}, api.ErrRoot)
	checkRoot(t, all(most), most, all(1), api.OK)
	checkRoot(t, all(-most), most, all(-1), api.OK)
	checkRoot(t, all(most), most+1, api.Dim{}, api.ErrRoot)
}

// P5.5.
func TestGroup(t *testing.T) {
	r := rand.New(rand.NewSource(55))
	mul := func(l ...api.Dim) api.Dim {
		d, e := dim.Mul(l...)
		if e != api.OK {
			t.Fatal(l, e)
		}
		return d
	}
	for range 2000 {
		a, b, c := chance(r, 33), chance(r, 33), chance(r, 33)
		if mul(a, b) != mul(b, a) {
			t.Error("not commutative:", a, b)
		}
		if mul(mul(a, b), c) != mul(a, mul(b, c)) || mul(a, b, c) != mul(mul(a, b), c) {
			t.Error("not associative:", a, b, c)
		}
		checkMul(t, a, api.OK, a, api.Dim{})
		checkQuo(t, mul(a, b), b, a, api.OK)
		checkMul(t, api.Dim{}, api.OK, a, mustPow(t, a, -1))
		small, m, n := chance(r, 9), r.Intn(11)-5, r.Intn(11)-5
		checkPow(t, small, m+n, mul(mustPow(t, small, m), mustPow(t, small, n)), api.OK)
		k := 1 + r.Intn(11)
		checkRoot(t, mustPow(t, small, k), k, small, api.OK)
	}
}
