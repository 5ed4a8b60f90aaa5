package rat_test

import (
	"math/big"
	"math/rand"
	"testing"

	"cubit/api"
	"cubit/rat"
)

func fracOf(t *testing.T, s string) rat.Frac {
	t.Helper()
	f, right := rat.Read(frac(s))
	if !right {
		t.Fatalf("%s is not right", s)
	}
	return f
}

// sameFrac: is it the number, in lowest terms, as far as it can be told?
func sameFrac(t *testing.T, name string, got rat.Frac, want *big.Rat) {
	t.Helper()
	r, e := got.Tell()
	v, why := told(want)
	check(t, name, r, e, v, why)
}

func bigTen(n int) *big.Rat {
	p := new(big.Rat).SetInt(new(big.Int).Exp(big.NewInt(10), big.NewInt(int64(max(n, -n))), nil))
	if n < 0 {
		p.Inv(p)
	}
	return p
}

func TestFracShift(t *testing.T) {
	r := rand.New(rand.NewSource(71))
	for i := range 2000 {
		v, places := sample(r, sizeOf(i)), r.Intn(400)-200
		f, _ := rat.Read(v)
		sameFrac(t, "Shift", f.Shift(places), new(big.Rat).Mul(value(v), bigTen(places)))
		sameFrac(t, "Shift and back", f.Shift(places).Shift(-places), value(v))
	}
	sameFrac(t, "Shift of 0", fracOf(t, "0").Shift(-5), new(big.Rat))
}

func TestFracPlaces(t *testing.T) {
	for s, want := range map[string]int{"1": 1, "-1": 1, "9": 1, "10": 2, "99/10": 1, "-101/10": 2, "1/10": 0, "9/10": 0, "99/1000": -1, "1/3": 0, "2/3": 0, "1/100": -1, "1/101": -2, nines(600): 600, "1/" + nines(600): -599, "1/" + ten(599): -598} {
		if got := fracOf(t, s).Places(); got != want {
			t.Errorf("Places of %.20s = %d, not %d", s, got, want)
		}
	}
	r := rand.New(rand.NewSource(72))
	for i := range 2000 {
		v := sample(r, sizeOf(i))
		if v.Num == "0" {
			continue
		}
		f, _ := rat.Read(v)
		size := new(big.Rat).Abs(value(v))
		if n := f.Places(); size.Cmp(bigTen(n-1)) < 0 || size.Cmp(bigTen(n)) >= 0 {
			t.Fatalf("Places of %v = %d", v, n)
		}
	}
}

func TestFracRound(t *testing.T) {
	r := rand.New(rand.NewSource(73))
	for i := range 2000 {
		v := sample(r, sizeOf(i))
		f, _ := rat.Read(v)
		want, why := rat.Round(v, 0)
		got, e := f.Round().Tell()
		check(t, "Round", got, e, want, why)
	}
	for s, want := range map[string]int64{"5/2": 2, "7/2": 4, "-5/2": -2, "-1/2": 0, "-51/100": -1, "0": 0} {
		sameFrac(t, "Round of "+s, fracOf(t, s).Round(), new(big.Rat).SetInt64(want))
	}
}

func TestFracRoot(t *testing.T) {
	for s, want := range map[string]int64{"0": 0, "1": 1, "3": 1, "4": 2, "99/100": 0, "399/100": 1, "401/100": 2, "152399025": 12345, "152399024": 12344} {
		sameFrac(t, "Root of "+s, fracOf(t, s).Root(), new(big.Rat).SetInt64(want))
	}
	r := rand.New(rand.NewSource(74))
	for i := range 300 {
		v := sample(r, sizeOf(i))
		f, _ := rat.Read(v)
		if f.Sign() < 0 {
			f = f.Neg()
		}
		size := new(big.Rat).Abs(value(v))
		whole := new(big.Int).Quo(size.Num(), size.Denom())
		sameFrac(t, "Root", f.Root(), new(big.Rat).SetInt(whole.Sqrt(whole)))
	}
}

func TestFracSquareRoot(t *testing.T) {
	for s, want := range map[string]string{"0": "0", "1": "1", "4": "2", "4/9": "2/3", "1/4": "1/2", "152399025/16": "12345/4", ten(598): ten(299), "1/" + ten(598): "1/" + ten(299)} {
		f, is := fracOf(t, s).SquareRoot()
		sameFrac(t, "SquareRoot of "+s, f, value(frac(want)))
		if !is {
			t.Error(s, "has no root")
		}
	}
	for _, s := range []string{"2", "3", "8", "-1", "-4", "-4/9", "1/2", "2/9", "4/3", "18/25", "152399024", ten(599), "-" + ten(598)} {
		if f, is := fracOf(t, s).SquareRoot(); is || f.Sign() != 0 {
			t.Error(s, "has a root")
		}
	}
	r := rand.New(rand.NewSource(75))
	for i := range 2000 {
		v := sample(r, []int{1, 2, 10, 300}[i%4])
		f, _ := rat.Read(v)
		root, is := f.Mul(f).SquareRoot()
		sameFrac(t, "SquareRoot of a square", root, new(big.Rat).Abs(value(v)))
		if !is {
			t.Error(v, "is no root")
		}
		if _, is := f.Mul(f).Neg().SquareRoot(); is && f.Sign() != 0 {
			t.Error(v, "below 0")
		}
	}
}

func TestFracPow(t *testing.T) {
	r := rand.New(rand.NewSource(76))
	for i := range 3000 {
		v, n := sample(r, []int{1, 1, 2, 40, 600}[i%5]), []int{r.Intn(9) - 4, r.Intn(700) - 350, r.Intn(8193) - 4096}[i%3]
		f, _ := rat.Read(v)
		power, e := f.Pow(n)
		want, why := rat.Pow(v, n)
		if e != why {
			t.Fatalf("%v to the %d: %d, not %d", v, n, e, why)
		}
		if e == api.OK {
			sameFrac(t, "Pow", power, value(want))
		}
	}
	if _, e := fracOf(t, "0").Pow(-1); e != api.ErrZero {
		t.Error(e)
	}
	if _, e := fracOf(t, "2").Pow(1994); e != api.ErrLarge {
		t.Error(e)
	}
	if f, e := fracOf(t, "0").Pow(0); e != api.OK || f.Cmp(fracOf(t, "1")) != 0 {
		t.Error(e)
	}
}
