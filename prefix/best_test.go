package prefix_test

import (
	"math/big"
	"math/rand"
	"strings"
	"testing"

	"cubit/api"
	"cubit/prefix"
)

// bestOf: by the chapter's words: the one with which the size is from 1 on and below 1000 (1024), or the outermost one.
func bestOf(t *testing.T, r *big.Rat, binary bool) (api.Prefix, *big.Rat) {
	size := new(big.Rat).Abs(r)
	bound := big.NewRat(1000, 1)
	if binary {
		bound = big.NewRat(1024, 1)
	}
	fits := func(x *big.Rat) bool { return x.Cmp(big.NewRat(1, 1)) >= 0 && x.Cmp(bound) < 0 }
	if size.Sign() == 0 || fits(size) {
		return api.Prefix{}, r
	}
	end := ""
	switch above := size.Cmp(bound) >= 0; {
	case above && binary:
		end = "yobi"
	case above:
		end = "quetta"
	case binary:
		return api.Prefix{}, r
	default:
		end = "quecto"
	}
	found := api.Prefix{}
	for _, o := range table(t) {
		step := strings.Contains(" kilo mega giga tera peta exa zetta yotta ronna quetta milli micro nano pico femto atto zepto yocto ronto quecto ", " "+o.name+" ")
		if o.binary != binary || !binary && !step {
			continue
		}
		if fits(new(big.Rat).Quo(size, o.factor)) {
			if found.Name != "" {
				t.Fatal("two fit", r)
			}
			found = o.prefix()
		}
	}
	if found.Name == "" {
		found = named(t, end)
	}
	return found, new(big.Rat).Quo(r, bigOf(t, found.Factor))
}

func checkBestOf(t *testing.T, r *big.Rat, binary bool) {
	t.Helper()
	p, by := bestOf(t, r, binary)
	why, told := api.OK, ratOf(by)
	if len(strings.TrimPrefix(told.Num, "-")) > 600 || len(told.Den) > 600 {
		p, told, why = api.Prefix{}, api.Rat{}, api.ErrLarge
	}
	checkBest(t, ratOf(r), binary, p, told, why)
	if got, number, e := prefix.Best(ratOf(r), binary); e == api.OK { // P7.6
		factor := big.NewRat(1, 1)
		if got.Name != "" {
			factor = bigOf(t, got.Factor)
		}
		if factor.Mul(factor, bigOf(t, number)).Cmp(r) != 0 {
			t.Errorf("Best(%v) = %v, %v is not that number", r, got, number)
		}
	}
}

// P7.3: the examples.
func TestBest(t *testing.T) {
	checkBest(t, number(t, "12345"), false, named(t, "kilo"), number(t, "2469/200"), api.OK)
	checkBest(t, number(t, "0"), false, api.Prefix{}, number(t, "0"), api.OK)
	checkBest(t, number(t, "0"), true, api.Prefix{}, number(t, "0"), api.OK)
	checkBest(t, number(t, "1/2"), false, named(t, "milli"), number(t, "500"), api.OK)
	checkBest(t, number(t, "1/2"), true, api.Prefix{}, number(t, "1/2"), api.OK)
	checkBest(t, number(t, "2048"), true, named(t, "kibi"), number(t, "2"), api.OK)
	checkBest(t, number(t, "1e40"), false, named(t, "quetta"), number(t, "1e10"), api.OK)
	checkBest(t, number(t, "-1e40"), false, named(t, "quetta"), number(t, "-1e10"), api.OK)
	checkBest(t, number(t, "-1e-40"), false, named(t, "quecto"), number(t, "-1e-10"), api.OK)
	checkBest(t, number(t, "1000"), true, api.Prefix{}, number(t, "1000"), api.OK)
	checkBest(t, number(t, "-1023"), true, api.Prefix{}, number(t, "-1023"), api.OK)
	checkBest(t, number(t, "1024"), true, named(t, "kibi"), number(t, "1"), api.OK)
	checkBest(t, number(t, "1024"), false, named(t, "kilo"), number(t, "128/125"), api.OK)
	checkBest(t, number(t, "100"), false, api.Prefix{}, number(t, "100"), api.OK)
}

// P7.3: at each power, a little below and above it, on both sides of 0.
func TestBestEdges(t *testing.T) {
	for _, of := range []int64{1000, 1024, 10} {
		for exp := -40; exp <= 40; exp++ {
			power := new(big.Rat).SetInt(new(big.Int).Exp(big.NewInt(of), big.NewInt(int64(max(exp, -exp))), nil))
			if exp < 0 {
				power.Inv(power)
			}
			for _, by := range []*big.Rat{big.NewRat(1, 1), big.NewRat(1<<40, 1<<40+1), big.NewRat(1<<40+1, 1<<40), big.NewRat(-1, 1), big.NewRat(-1<<40, 1<<40+1), big.NewRat(-1<<40-1, 1<<40)} {
				r := new(big.Rat).Mul(power, by)
				checkBestOf(t, r, false)
				checkBestOf(t, r, true)
			}
		}
	}
}

// P7.3: numbers of all sizes.
func TestBestOfMany(t *testing.T) {
	r := rand.New(rand.NewSource(73))
	digits := func(n int) *big.Int {
		b, _ := new(big.Int).SetString(strings.Repeat("9", n), 10)
		return new(big.Int).Add(new(big.Int).Rand(r, b), big.NewInt(1))
	}
	for range 1500 {
		q := new(big.Rat).SetFrac(digits(1+r.Intn(60)), digits(1+r.Intn(60)))
		if r.Intn(2) == 0 {
			q.Neg(q)
		}
		checkBestOf(t, q, r.Intn(2) == 0)
	}
	for range 30 {
		q := new(big.Rat).SetFrac(digits(600-r.Intn(3)), digits(600-r.Intn(3)))
		checkBestOf(t, q, false)
		checkBestOf(t, q, true)
	}
}

// P7.3: with a prefix the number may be too large; without one it never is.
func TestBestLarge(t *testing.T) {
	nines := strings.Repeat("9", 600)
	small := api.Rat{Num: strings.Repeat("9", 597) + "8", Den: nines}
	if b := bigOf(t, small); ratOf(b) != small {
		small.Num = strings.Repeat("9", 596) + "88"
	}
	if b := bigOf(t, small); ratOf(b) != small {
		t.Fatal("not in lowest terms")
	}
	p, by := bestOf(t, bigOf(t, small), false)
	if len(by.Num().String()) <= 600 {
		t.Fatal("not too large", p, by)
	}
	checkBest(t, small, false, api.Prefix{}, api.Rat{}, api.ErrLarge)
	checkBest(t, small, true, api.Prefix{}, small, api.OK)
	checkBestOf(t, bigOf(t, api.Rat{Num: nines, Den: "1"}), false)
	checkBestOf(t, bigOf(t, api.Rat{Num: nines, Den: "1"}), true)
	checkBestOf(t, bigOf(t, api.Rat{Num: "1", Den: nines}), false)
	checkBestOf(t, bigOf(t, api.Rat{Num: "-1", Den: nines}), true)
	checkBestOf(t, bigOf(t, api.Rat{Num: nines, Den: strings.Repeat("9", 599) + "8"}), false)
}

// P7.3: numbers that are not right.
func TestBestWrong(t *testing.T) {
	long := strings.Repeat("1", 601)
	for _, r := range []api.Rat{{}, {Num: "1"}, {Den: "1"}, {Num: "2", Den: "4"}, {Num: "1", Den: "0"}, {Num: "0", Den: "2"}, {Num: "-0", Den: "1"}, {Num: "01", Den: "1"}, {Num: "1", Den: "-1"}, {Num: "+1", Den: "1"}, {Num: "1.5", Den: "1"}, {Num: "k", Den: "1"}, {Num: long, Den: "1"}, {Num: "1", Den: long}, {Num: "5000", Den: "10"}} {
		checkBest(t, r, false, api.Prefix{}, api.Rat{}, api.ErrForm)
		checkBest(t, r, true, api.Prefix{}, api.Rat{}, api.ErrForm)
	}
}
