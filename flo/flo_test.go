package flo_test

import (
	"math"
	"math/big"
	"math/rand"
	"slices"
	"testing"

	"cubit/api"
	"cubit/flo"
	"cubit/rat"
)

func checkNear(t *testing.T, r api.Rat, want float64, why api.Errno) {
	t.Helper()
	if got, e := flo.Near(r); !same(got, want) || e != why {
		t.Errorf("Near(%s/%s) = %v, %d, not %v, %d", r.Num, r.Den, got, e, want, why)
	}
}

// P3.1.
func TestNear(t *testing.T) {
	for _, c := range []struct {
		num, den string
		want     float64
	}{
		{"1", "10", 0.1}, {"-1", "10", -0.1}, {"0", "1", 0}, {"1", "1", 1}, {"1", "3", 1.0 / 3},
		{"-1", ten(400), negZero}, {"1", ten(400), 0}, {"-1", ten(599), negZero}, {"1", ten(599), 0},
		{"9007199254740993", "1", 9007199254740992}, {"9007199254740995", "1", 9007199254740996}, {"-9007199254740993", "1", -9007199254740992},
		{"18014398509481983", "1", 18014398509481984}, // half way below a power of two
		{"18014398509481986", "1", 18014398509481984}, // half way above it
	} {
		checkNear(t, api.Rat{Num: c.num, Den: c.den}, c.want, api.OK)
	}
	if f, _ := flo.Near(rat.Of(0)); math.Float64bits(f) != 0 {
		t.Error("Near(0) is not +0")
	}
	for _, w := range wrongs() {
		checkNear(t, w, 0, api.ErrForm)
	}
}

// P3.1: where floats end, above and below.
func TestNearAtTheEnds(t *testing.T) {
	end := new(big.Rat).Sub(power(1024), power(970))
	little := new(big.Rat).Inv(bigRat(t, ten(200)))
	inside := new(big.Rat).Sub(end, little)
	for _, c := range []struct {
		v    *big.Rat
		want float64
		why  api.Errno
	}{
		{power(1024), 0, api.ErrInf}, {end, 0, api.ErrInf}, {new(big.Rat).Add(end, little), 0, api.ErrInf}, {bigRat(t, "1e599"), 0, api.ErrInf},
		{inside, most, api.OK}, {new(big.Rat).Sub(end, power(0)), most, api.OK}, {exactly(most), most, api.OK},
		{power(-1075), 0, api.OK}, {new(big.Rat).Sub(power(-1075), power(-1900)), 0, api.OK}, {new(big.Rat).Add(power(-1075), power(-1076)), least, api.OK}, {new(big.Rat).Add(power(-1075), power(-1900)), least, api.OK},
		{new(big.Rat).Mul(power(-1075), big.NewRat(3, 1)), 2 * least, api.OK}, {new(big.Rat).Mul(power(-1075), big.NewRat(5, 1)), 2 * least, api.OK}, {power(-1074), least, api.OK},
	} {
		checkNear(t, number(c.v), c.want, c.why)
		minus := negZero
		if c.why != api.OK {
			minus = 0
		} else if c.want != 0 {
			minus = -c.want
		}
		checkNear(t, number(new(big.Rat).Neg(c.v)), minus, c.why)
	}
}

// P3.1, P3.6.
func TestNearIsNearest(t *testing.T) {
	r := rand.New(rand.NewSource(31))
	for i, f := range samples(31, 6000) {
		// A float, half way to the next one, and a little beside that.
		v := exactly(f)
		if i%3 > 0 {
			v.Add(v, new(big.Rat).Mul(exactly(flo.Ulp(f)), big.NewRat(1, 2)))
		}
		if i%3 > 1 {
			v.Mul(v, big.NewRat(1e15+int64(r.Intn(3))-1, 1e15))
		}
		x := number(v)
		if !rat.Right(x) {
			continue
		}
		want, _ := v.Float64()
		if math.IsInf(want, 0) {
			checkNear(t, x, 0, api.ErrInf)
			continue
		}
		if want == 0 {
			want = math.Copysign(0, float64(v.Sign())) // of 0 itself +0
		}
		checkNear(t, x, want, api.OK)
		off := new(big.Rat).Sub(v, exactly(want))
		if off.Abs(off).Cmp(new(big.Rat).Mul(exactly(flo.Ulp(want)), big.NewRat(1, 2))) > 0 {
			t.Errorf("Near of %s is more than half an Ulp away", v)
		}
	}
}

// P3.6: numbers of many digits above and below, too.
func TestNearRises(t *testing.T) {
	r := rand.New(rand.NewSource(32))
	var l []*big.Rat
	for range 1500 {
		num := new(big.Int).Rand(r, new(big.Int).Exp(big.NewInt(10), big.NewInt(int64(1+r.Intn(600))), nil))
		den := new(big.Int).Rand(r, new(big.Int).Exp(big.NewInt(10), big.NewInt(int64(1+r.Intn(600))), nil))
		if den.Sign() > 0 {
			v := new(big.Rat).SetFrac(num, den)
			if r.Intn(2) == 0 {
				v.Neg(v)
			}
			l = append(l, v)
		}
	}
	slices.SortFunc(l, (*big.Rat).Cmp)
	last := -inf
	for _, v := range l {
		f, e := flo.Near(number(v))
		if want, _ := v.Float64(); math.IsInf(want, 0) != (e == api.ErrInf) || e == api.OK && f != want {
			t.Fatalf("Near(%s) = %v, %d", v, f, e)
		}
		if e != api.OK {
			continue
		}
		if flo.Order(last, f) > 0 {
			t.Fatalf("Near falls: %v, %v", last, f)
		}
		last = f
	}
}

// P3.1, P3.6.
func TestExact(t *testing.T) {
	for _, f := range samples(33, 3000) {
		r, e := flo.Exact(f)
		if r != number(exactly(f)) || e != api.OK || !rat.Right(r) {
			t.Fatalf("Exact(%v) = %v, %d", f, r, e)
		}
		want := f
		if f == 0 {
			want = math.Abs(f) // of both +0
		}
		if back, e := flo.Near(r); !same(back, want) || e != api.OK {
			t.Fatalf("Near(Exact(%v)) = %v, %d", f, back, e)
		}
	}
	if r, e := flo.Exact(0.1); r != (api.Rat{Num: "3602879701896397", Den: "36028797018963968"}) || e != api.OK {
		t.Errorf("Exact(0.1) = %v, %d", r, e)
	}
	if r, e := flo.Exact(negZero); r != rat.Of(0) || e != api.OK {
		t.Errorf("Exact(-0) = %v, %d", r, e)
	}
	for _, f := range []float64{inf, -inf} {
		if r, e := flo.Exact(f); r != (api.Rat{}) || e != api.ErrInf {
			t.Errorf("Exact(%v) = %v, %d", f, r, e)
		}
	}
	for _, f := range nans() {
		if r, e := flo.Exact(f); r != (api.Rat{}) || e != api.ErrNan {
			t.Errorf("Exact(%v) = %v, %d", f, r, e)
		}
	}
}

// P3.4, P3.8.
func TestOrder(t *testing.T) {
	l := line()
	for i, a := range l {
		for j, b := range l {
			want := 0
			if i < j {
				want = -1
			} else if i > j {
				want = 1
			}
			if got := flo.Order(a, b); got != want {
				t.Errorf("Order(%v, %v) = %d", a, b, got)
			}
		}
		for _, n := range nans() {
			if flo.Order(a, n) != -1 || flo.Order(n, a) != 1 {
				t.Errorf("Order of %v and %x", a, math.Float64bits(n))
			}
		}
	}
	for _, a := range nans() {
		for _, b := range nans() {
			if flo.Order(a, b) != 0 {
				t.Errorf("Order of %x and %x", math.Float64bits(a), math.Float64bits(b))
			}
		}
	}
}

// P3.4, P3.8.
func TestNext(t *testing.T) {
	for _, c := range []struct {
		f    float64
		up   bool
		want float64
	}{
		{negZero, true, 0}, {0, false, negZero}, {0, true, least}, {negZero, false, -least}, {-least, true, negZero}, {least, false, 0},
		{inf, true, inf}, {-inf, false, -inf}, {inf, false, most}, {-inf, true, -most}, {most, true, inf}, {-most, false, -inf},
		{1, true, 1 + 0x1p-52}, {1, false, 1 - 0x1p-53}, {-1, true, -1 + 0x1p-53}, {normal, false, normal - least},
	} {
		if got := flo.Next(c.f, c.up); !same(got, c.want) {
			t.Errorf("Next(%v, %v) = %v", c.f, c.up, got)
		}
	}
	for _, f := range nans() {
		if flo.Next(f, true) == flo.Next(f, true) || flo.Next(f, false) == flo.Next(f, false) {
			t.Errorf("Next(%x) is a number", math.Float64bits(f))
		}
	}
	for _, f := range samples(34, 5000) {
		up, down := flo.Next(f, true), flo.Next(f, false)
		if flo.Order(down, f) != -1 || flo.Order(f, up) != -1 {
			t.Fatalf("Next of %v: %v, %v", f, down, up)
		}
		if !same(flo.Next(up, false), f) || !same(flo.Next(down, true), f) {
			t.Fatalf("Next does not lead back to %v", f)
		}
		if f != 0 && up != math.Nextafter(f, inf) || f != 0 && down != math.Nextafter(f, -inf) {
			t.Fatalf("something lies between %v, %v and %v", down, f, up)
		}
	}
}

// P3.4.
func TestUlp(t *testing.T) {
	for f, want := range map[float64]float64{1: 2.220446049250313e-16, -1: 0x1p-52, 0: least, least: least, normal: least, math.Nextafter(normal, 0): least, 2 * normal: 2 * least, 1.5: 0x1p-52, 2: 0x1p-51, most: 0x1p971, -most: 0x1p971, math.Nextafter(most, 0): 0x1p971, inf: inf, -inf: inf} {
		if got := flo.Ulp(f); got != want {
			t.Errorf("Ulp(%v) = %v, not %v", f, got, want)
		}
	}
	if flo.Ulp(negZero) != least {
		t.Error("Ulp(-0)")
	}
	for _, f := range nans() {
		if u := flo.Ulp(f); u == u {
			t.Errorf("Ulp(%x) = %v", math.Float64bits(f), u)
		}
	}
	for _, f := range samples(35, 5000) {
		size := math.Abs(f)
		if up := flo.Next(size, true); !math.IsInf(up, 0) && flo.Ulp(f) != up-size {
			t.Fatalf("Ulp(%v) = %v", f, flo.Ulp(f))
		}
	}
}

// P3.5.
func TestSums(t *testing.T) {
	for _, c := range []struct {
		l         []float64
		sum, kept float64
	}{
		{nil, 0, 0}, {[]float64{1e16, 1, -1e16}, 0, 1}, {[]float64{1, 1e100, 1, -1e100}, 0, 2}, {[]float64{0.1, 0.2}, 0.30000000000000004, 0.30000000000000004}, {[]float64{0.1, 0.2, 0.3}, 0.6000000000000001, 0.6},
		{[]float64{negZero}, 0, 0}, {[]float64{negZero, negZero}, 0, 0}, {[]float64{inf}, inf, nan}, {[]float64{-inf, 1}, -inf, nan}, {[]float64{inf, -inf}, nan, nan}, {[]float64{1, nan}, nan, nan}, {[]float64{most, most}, inf, nan}, {[]float64{most, most, -most}, inf, nan},
		{[]float64{least, -least, 5}, 5, 5},
	} {
		before := slices.Clone(c.l)
		if got := flo.Sum(c.l...); !same(got, c.sum) {
			t.Errorf("Sum(%v) = %v", c.l, got)
		}
		if got := flo.Kept(c.l...); !same(got, c.kept) {
			t.Errorf("Kept(%v) = %v", c.l, got)
		}
		if !slices.EqualFunc(before, c.l, same) {
			t.Errorf("%v became %v", before, c.l)
		}
	}
}

// P3.5: Kept, step by step, as the chapter has it.
func TestKeptByItsSteps(t *testing.T) {
	r := rand.New(rand.NewSource(36))
	for range 2000 {
		l := make([]float64, r.Intn(12))
		for i := range l {
			l[i] = (r.Float64() - 0.5) * math.Pow(10, float64(r.Intn(40)-20))
			if i > 0 && r.Intn(3) == 0 {
				l[i] = -l[i-1]
			}
		}
		s, c := 0.0, 0.0
		for _, x := range l {
			t := s + x
			more := s - t
			more += x
			if math.Abs(s) < math.Abs(x) {
				more = x - t
				more += s
			}
			c += more
			s = t
		}
		if got := flo.Kept(l...); !same(got, s+c) {
			t.Fatalf("Kept(%v) = %v, not %v", l, got, s+c)
		}
	}
}

// P3.5.
func TestDot(t *testing.T) {
	long := make([]float64, api.MaxFloats+1)
	for i := range long {
		long[i] = 1
	}
	x := 1 + 0x1p-30
	for _, c := range []struct {
		a, b []float64
		want float64
		why  api.Errno
	}{
		{nil, nil, 0, api.OK}, {[]float64{1, 2}, []float64{3, 4}, 11, api.OK}, {[]float64{negZero}, []float64{1}, 0, api.OK},
		{[]float64{x, -1}, []float64{x, x * x}, 0, api.OK}, // the product loses its last bits ahead of the sum
		{[]float64{-1, x}, []float64{x * x, x}, 0, api.OK}, // here too
		{[]float64{1e200, 1}, []float64{1e200, 1}, inf, api.OK}, {[]float64{inf}, []float64{0}, nan, api.OK},
		{[]float64{1}, nil, 0, api.ErrArg}, {nil, []float64{1}, 0, api.ErrArg}, {[]float64{1, 2}, []float64{3}, 0, api.ErrArg},
		{long, long[1:], 0, api.ErrArg}, {long, nil, 0, api.ErrArg}, {long, long, 0, api.ErrSize}, {long[1:], long[1:], api.MaxFloats, api.OK},
	} {
		if got, e := flo.Dot(c.a, c.b); !same(got, c.want) || e != c.why {
			t.Errorf("Dot of %d and %d = %v, %d, not %v, %d", len(c.a), len(c.b), got, e, c.want, c.why)
		}
	}
}

// P3.9.
func TestSumGoesOn(t *testing.T) {
	r := rand.New(rand.NewSource(37))
	for range 2000 {
		l := make([]float64, r.Intn(20))
		whole := make([]float64, len(l))
		exact := new(big.Rat)
		for i := range l {
			l[i] = r.NormFloat64() * 1e3
			whole[i] = float64(r.Intn(1<<20)-1<<19) / 1024
			exact.Add(exact, exactly(whole[i]))
		}
		if near, _ := flo.Near(number(exact)); !same(flo.Sum(whole...), near) {
			t.Fatalf("Sum(%v) is not exact", whole)
		}
		cut := r.Intn(len(l) + 1)
		if first := flo.Sum(l[:cut]...); !same(flo.Sum(l...), flo.Sum(append([]float64{first}, l[cut:]...)...)) {
			t.Fatalf("Sum(%v) does not begin with Sum of the first %d", l, cut)
		}
	}
}
