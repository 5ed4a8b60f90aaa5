package rat_test

import (
	"math/big"
	"math/rand"
	"strings"
	"testing"

	"cubit/api"
	"cubit/rat"
)

func nines(n int) string  { return strings.Repeat("9", n) }
func nought(n int) string { return strings.Repeat("0", n) }
func ten(n int) string    { return "1" + nought(n) }

// frac: of a text num/den, or num, as it stands there.
func frac(s string) api.Rat {
	num, den, cut := strings.Cut(s, "/")
	if !cut {
		den = "1"
	}
	return api.Rat{Num: num, Den: den}
}

// wrongs: numbers each of which breaks one rule of what is right.
func wrongs() []api.Rat {
	var l []api.Rat
	for _, w := range [][2]string{{"", ""}, {"1", ""}, {"", "1"}, {"0", "0"}, {"1", "0"}, {"0", "2"}, {"-0", "1"}, {"2", "6"}, {"-2", "4"}, {"7", "7"}, {"1", "-2"}, {"-1", "-2"}, {"+1", "2"}, {"--1", "2"}, {"01", "2"}, {"1", "02"}, {"1.0", "2"}, {" 1", "2"}, {"1", "2 "}, {"1/2", "3"}, {"-", "1"}, {"a", "1"}, {"1", "\xff"}, {ten(600), "1"}, {"-" + ten(600), "1"}, {"1", ten(600)}, {nines(600), "3"}} {
		l = append(l, api.Rat{Num: w[0], Den: w[1]})
	}
	return l
}

func value(r api.Rat) *big.Rat {
	num, ok := new(big.Int).SetString(r.Num, 10)
	den, okToo := new(big.Int).SetString(r.Den, 10)
	if !ok || !okToo {
		panic("no number: " + r.Num + "/" + r.Den)
	}
	return new(big.Rat).SetFrac(num, den)
}

// told: a result, or ErrLarge, as the chapter has it.
func told(v *big.Rat) (api.Rat, api.Errno) {
	num, den := v.Num().String(), v.Denom().String()
	if len(strings.TrimPrefix(num, "-")) > api.MaxDigits || len(den) > api.MaxDigits {
		return api.Rat{}, api.ErrLarge
	}
	return api.Rat{Num: num, Den: den}, api.OK
}

func check(t *testing.T, name string, got api.Rat, e api.Errno, want api.Rat, why api.Errno) {
	t.Helper()
	if got != want || e != why {
		t.Errorf("%s = %s/%s, %d, not %s/%s, %d", name, got.Num, got.Den, e, want.Num, want.Den, why)
	}
}

// sample: numbers right and of all sizes, with so many digits above and below at the most; some are 0 or whole, many are below 0.
func sample(r *rand.Rand, most int) api.Rat {
	num := digits(r, most)
	den := digits(r, most)
	if den == "0" || r.Intn(6) == 0 {
		den = "1"
	}
	if r.Intn(2) == 0 {
		num = "-" + num
	}
	v, e := rat.New(num, den)
	if e != api.OK {
		panic("no sample")
	}
	return v
}

func digits(r *rand.Rand, most int) string {
	b := make([]byte, 1+r.Intn(most))
	kind := r.Intn(4)
	for i := range b {
		switch {
		case kind < 2 || r.Intn(3) == 0:
			b[i] = byte('0' + r.Intn(10))
		case kind == 2:
			b[i] = '9'
		default:
			b[i] = '0'
		}
	}
	if s := strings.TrimLeft(string(b), "0"); s != "" {
		return s
	}
	return "0"
}

// size of the samples: small ones often, so that they meet one another; great ones too.
func sizeOf(i int) int { return []int{1, 2, 4, 10, 30, 200, 300, 600}[i%8] }
