package rat_test

import (
	"math/big"
	"math/rand"
	"slices"
	"strings"
	"testing"

	"cubit/api"
	"cubit/rat"
)

// P2.6.
func TestSimple(t *testing.T) {
	for _, c := range [][3]string{{"3/10", "2/5", "1/3"}, {"-1/2", "7", "0"}, {"5/2", "9/2", "3"}, {"-9/2", "-5/2", "-3"}, {"0", "0", "0"}, {"0", "7", "0"}, {"-7", "0", "0"}, {"2", "9", "2"}, {"-9", "-2", "-2"}, {"1/7", "1/7", "1/7"}, {"-22/7", "-22/7", "-22/7"}, {"1/1000", "1/2", "1/2"}, {"1/1000", "999/1000", "1/2"}, {"1/3", "1/2", "1/2"}, {"-2/5", "-3/10", "-1/3"}, {"314/100", "", "22/7"}, {"7", "7", "7"}, {"1/2", "1", "1"}, {nines(600), nines(600), nines(600)}, {"1/" + nines(600), "1/" + nines(600), "1/" + nines(600)}} {
		low, high := frac(c[0]), frac(c[1])
		if c[1] == "" {
			low, high = frac("157/50"), frac("315/100")
			high, _ = rat.New(high.Num, high.Den)
		}
		got, e := rat.Simple(low, high)
		check(t, "Simple "+c[0]+" "+c[1], got, e, frac(c[2]), api.OK)
	}
	for _, c := range [][2]string{{"1", "0"}, {"1/2", "1/3"}, {"-1/3", "-1/2"}, {"1/3", "-1/3"}} {
		got, e := rat.Simple(frac(c[0]), frac(c[1]))
		check(t, "Simple "+c[0]+" "+c[1], got, e, api.Rat{}, api.ErrBelow)
	}
}

// P2.12, by looking at every Den up to the answer's.
func TestSimpleHasTheLeastDen(t *testing.T) {
	r := rand.New(rand.NewSource(31))
	for range 1500 {
		low, high := sample(r, 3), sample(r, 3)
		if n, _ := rat.Cmp(low, high); n > 0 {
			low, high = high, low
		}
		got, e := rat.Simple(low, high)
		want := leastDen(value(low), value(high))
		if e != api.OK || value(got).Cmp(want) != 0 {
			t.Fatalf("Simple(%v, %v) = %v, %d, not %s", low, high, got, e, want)
		}
	}
}

// leastDen: Den by Den, the multiples of 1/den from low to high; of those the one nearest to 0.
func leastDen(low, high *big.Rat) *big.Rat {
	for den := int64(1); ; den++ {
		scale := new(big.Rat).SetInt64(den)
		l, h := new(big.Rat).Mul(low, scale), new(big.Rat).Mul(high, scale)
		first := new(big.Int).Neg(new(big.Int).Div(new(big.Int).Neg(l.Num()), l.Denom()))
		last := new(big.Int).Div(h.Num(), h.Denom())
		if first.Cmp(last) > 0 {
			continue
		}
		num := first
		if last.Sign() < 0 {
			num = last
		} else if first.Sign() < 0 {
			num = big.NewInt(0)
		}
		return new(big.Rat).SetFrac(num, big.NewInt(den))
	}
}

func TestSimpleOfGreatNumbers(t *testing.T) {
	r := rand.New(rand.NewSource(32))
	for range 200 {
		a := sample(r, 600)
		got, e := rat.Simple(a, a)
		check(t, "Simple of one number", got, e, a, api.OK)
		b := sample(r, 600)
		if n, _ := rat.Cmp(a, b); n > 0 {
			a, b = b, a
		}
		got, e = rat.Simple(a, b)
		if e != api.OK || !rat.Right(got) || value(got).Cmp(value(a)) < 0 || value(got).Cmp(value(b)) > 0 {
			t.Fatalf("Simple(%v, %v) = %v, %d", a, b, got, e)
		}
	}
}

// P2.6.
func TestChain(t *testing.T) {
	for s, want := range map[string]string{"-7/3": "-3 1 2", "5": "5", "0": "0", "-5": "-5", "1/2": "0 2", "-1/2": "-1 2", "355/113": "3 7 16", "22/7": "3 7", "-22/7": "-4 1 6", "1/" + nines(600): "0 " + nines(600), nines(600): nines(600), "-1/" + nines(600): "-1 1 " + nines(599) + "8"} {
		l, e := rat.Chain(frac(s))
		if strings.Join(l, " ") != want || e != api.OK {
			t.Errorf("Chain(%s) = %q, %d", s, l, e)
		}
	}
}

// P2.6.
func TestBack(t *testing.T) {
	for s, want := range map[string]string{"3 7 15 1": "355/113", "3 7 16": "355/113", "5": "5", "0": "0", "-5": "-5", "-3 1 2": "-7/3", "0 1": "1", "-1 1": "0", "-1 2": "-1/2", "7 1": "8", "0 " + nines(600): "1/" + nines(600), "-" + nines(600) + " 1": "-" + nines(599) + "8"} {
		got, e := rat.Back(strings.Split(s, " "))
		check(t, "Back "+s, got, e, frac(want), api.OK)
	}
	for _, l := range [][]string{nil, {}, {""}, {"-0"}, {"x"}, {"+1"}, {"01"}, {"1.5"}, {"1/2"}, {ten(600)}, {"-" + ten(600)}, {"1", "0"}, {"1", "-2"}, {"1", "02"}, {"1", ""}, {"1", "2", "0"}, {"1", "2", "x", "3"}, {"1", ten(600)}, {nines(600), "0"}} {
		got, e := rat.Back(l)
		check(t, "Back "+strings.Join(l, " "), got, e, api.Rat{}, api.ErrForm)
	}
	for _, s := range []string{nines(600) + " 1", nines(600) + " " + nines(600), "0 " + nines(600) + " 2", "1 1 " + nines(600), strings.Repeat("9 ", 700) + "9"} {
		got, e := rat.Back(strings.Split(s, " "))
		check(t, "Back "+s, got, e, api.Rat{}, api.ErrLarge)
	}
}

// A long chain is soon known to be too large; a wrong text at its end goes ahead of that all the same.
func TestBackOfALongChain(t *testing.T) {
	l := make([]string, 200000)
	for i := range l {
		l[i] = "1"
	}
	got, e := rat.Back(l)
	check(t, "Back", got, e, api.Rat{}, api.ErrLarge)
	l[len(l)-1] = "0"
	got, e = rat.Back(l)
	check(t, "Back", got, e, api.Rat{}, api.ErrForm)
	got, e = rat.Back(l[:2800])
	want, _ := told(fibonacci(2800))
	check(t, "Back", got, e, want, api.OK)
}

// fibonacci: what n ones behind one another come to.
func fibonacci(n int) *big.Rat {
	a, b := big.NewInt(1), big.NewInt(1)
	for range n - 1 {
		a, b = new(big.Int).Add(a, b), a
	}
	return new(big.Rat).SetFrac(a, b)
}

// P2.13.
func TestChainThereAndBack(t *testing.T) {
	r := rand.New(rand.NewSource(33))
	for i := range 1000 {
		a := sample(r, sizeOf(i))
		l, e := rat.Chain(a)
		if e != api.OK || len(l) > 1 && l[len(l)-1] == "1" {
			t.Fatalf("Chain(%v) = %q, %d", a, l, e)
		}
		for _, c := range l[1:] {
			if c == "0" || c[0] == '-' {
				t.Fatalf("Chain(%v) = %q", a, l)
			}
		}
		got, e := rat.Back(l)
		check(t, "Back of Chain", got, e, a, api.OK)
	}
	for range 1000 {
		l := []string{sample(r, 5).Num}
		for range r.Intn(12) {
			if c := digits(r, 8); c != "0" {
				l = append(l, c)
			}
		}
		kept := slices.Clone(l)
		a, e := rat.Back(l)
		if e != api.OK || !slices.Equal(l, kept) {
			t.Fatalf("Back(%q): %d", l, e)
		}
		if n := len(l) - 1; n > 0 && l[n] == "1" {
			more, _ := rat.Add(frac(l[n-1]), rat.Of(1))
			l = append(l[:n-1], more.Num)
		}
		if back, _ := rat.Chain(a); !slices.Equal(back, l) {
			t.Fatalf("Chain(%v) = %q, not %q", a, back, l)
		}
	}
}

// An answer is new memory.
func TestChainIsNew(t *testing.T) {
	l, _ := rat.Chain(frac("-7/3"))
	l[0] = "x"
	if m, _ := rat.Chain(frac("-7/3")); m[0] != "-3" {
		t.Errorf("Chain answers %q", m)
	}
}
