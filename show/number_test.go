package show_test

import (
	"math"
	"math/big"
	"math/rand"
	"strings"
	"testing"

	"cubit/api"
	"cubit/rat"
	"cubit/show"
)

// P25.1: the chapter's examples, both ends of what is told plainly, ties, and nines that become a 1.
func TestNumber(t *testing.T) {
	for _, c := range []struct {
		x    string
		n    int
		want string
	}{
		{"1/3", 3, "0.333"}, {"12345", 3, "12300"}, {"1234567", 3, "1.23e6"}, {"999.96", 4, "1000"}, {"2", 3, "2.00"}, {"1/3000000", 2, "3.3e-7"}, {"-0.00012345", 3, "-0.000123"},
		{"0", 1, "0"}, {"0", 40, "0"}, {"7", 1, "7"}, {"-7", 1, "-7"}, {"70", 1, "70"}, {"123456", 1, "100000"}, {"1234567", 1, "1e6"}, {"999999", 6, "999999"}, {"999999.4", 6, "999999"}, {"999999.6", 6, "1.00000e6"}, {"999999.6", 5, "1.0000e6"}, {"999999.6", 7, "999999.6"}, {"1234567", 7, "1234567"}, {"12345678", 7, "1.234568e7"}, {"1e39", 40, "1" + strings.Repeat("0", 39)}, {"1e40", 40, "1." + strings.Repeat("0", 39) + "e40"}, {"1e38", 40, "1" + strings.Repeat("0", 38) + ".0"},
		{"0.00001", 1, "0.00001"}, {"0.00001", 3, "0.0000100"}, {"0.000009", 1, "9e-6"}, {"0.0000099", 1, "0.00001"}, {"0.00000999", 2, "0.000010"}, {"0.0000094", 1, "9e-6"}, {"0.0000095", 1, "0.00001"}, {"-1/1000000", 2, "-1.0e-6"}, {"1e-599", 3, "1.00e-599"}, {"1e599", 1, "1e599"}, {"-1e599", 2, "-1.0e599"},
		{"2.5", 1, "2"}, {"3.5", 1, "4"}, {"-2.5", 1, "-2"}, {"0.125", 2, "0.12"}, {"0.135", 2, "0.14"}, {"9.5", 1, "10"}, {"8.5", 1, "8"}, {"99.5", 2, "100"}, {"98.5", 2, "98"}, {"2.51", 1, "3"}, {"25", 1, "20"}, {"1250", 2, "1200"}, {"1350", 2, "1400"}, {"0.95", 1, "1"}, {"0.96", 1, "1"}, {"0.99", 1, "1"}, {"0.0995", 2, "0.10"}, {"12.5", 3, "12.5"}, {"12.5", 4, "12.50"}, {"123.456", 3, "123"}, {"123.456", 4, "123.5"},
		{"2/3", 40, "0." + strings.Repeat("6", 39) + "7"},
	} {
		if s, e := show.Number(number(c.x), c.n); s != c.want || e != api.OK {
			t.Errorf("Number(%s, %d) = %q, %d, not %q", c.x, c.n, s, e, c.want)
		}
		if model := numbered(bigOf(number(c.x)), c.n); model != c.want {
			t.Errorf("the model of Number(%s, %d): %q", c.x, c.n, model)
		}
	}
	nines := api.Rat{Num: strings.Repeat("9", 600), Den: "1"}
	if s, e := show.Number(nines, 40); s != "1."+strings.Repeat("0", 39)+"e600" || e != api.OK {
		t.Error(s, e)
	}
	if s, e := show.Number(api.Rat{Num: "1", Den: nines.Num}, 2); s != "1.0e-600" || e != api.OK {
		t.Error(s, e)
	}
}

// P25.1: which error goes ahead.
func TestWrongNumbers(t *testing.T) {
	for _, x := range wrongs() {
		for _, n := range []int{3, 0, 41, -1, math.MinInt, math.MaxInt} {
			if s, e := show.Number(x, n); s != "" || e != api.ErrForm {
				t.Errorf("Number(%s, %d) = %q, %d", short(x), n, s, e)
			}
			if s, e := show.Fixed(x, n); s != "" || e != api.ErrForm {
				t.Errorf("Fixed(%s, %d) = %q, %d", short(x), n, s, e)
			}
		}
	}
	for _, n := range []int{0, 41, -1, math.MinInt, math.MaxInt} {
		for _, x := range []string{"0", "1", "-7/3"} {
			if s, e := show.Number(number(x), n); s != "" || e != api.ErrArg {
				t.Errorf("Number(%s, %d) = %q, %d", x, n, s, e)
			}
			if s, e := show.Fixed(number(x), n); (s != "" || e != api.ErrArg) && n != 0 {
				t.Errorf("Fixed(%s, %d) = %q, %d", x, n, s, e)
			}
		}
	}
}

// P25.1.
func TestFixed(t *testing.T) {
	for _, c := range []struct {
		x    string
		n    int
		want string
	}{{"1/3", 3, "0.333"}, {"5/2", 0, "2"}, {"7/2", 0, "4"}, {"-1/1000", 2, "0.00"}, {"-1/100", 2, "-0.01"}, {"22/7", 4, "3.1429"}, {"0", 40, "0." + strings.Repeat("0", 40)}, {"1e599", 0, "1" + strings.Repeat("0", 599)}, {"2/3", 40, "0." + strings.Repeat("6", 39) + "7"}} {
		if s, e := show.Fixed(number(c.x), c.n); s != c.want || e != api.OK {
			t.Errorf("Fixed(%s, %d) = %q, %d, not %q", c.x, c.n, s, e, c.want)
		}
	}
	if s, e := show.Fixed(number("1e599"), 1); s != "" || e != api.ErrLarge {
		t.Error(s, e)
	}
	r := rand.New(rand.NewSource(251))
	for range 1000 {
		x, n := sample(r), r.Intn(41)
		want, why := rat.Digits(x, n)
		if s, e := show.Fixed(x, n); s != want || e != why {
			t.Errorf("Fixed(%s, %d) = %q, %d", short(x), n, s, e)
		}
	}
}

// P25.1: numbers of chance against the model.
func TestNumberAgainstTheModel(t *testing.T) {
	r := rand.New(rand.NewSource(252))
	plain, withExponent := 0, 0
	for range 40000 {
		x, n := sample(r), 1+r.Intn(pick(r, 4, 9, 40))
		want := numbered(bigOf(x), n)
		if s, e := show.Number(x, n); s != want || e != api.OK {
			t.Errorf("Number(%s, %d) = %q, %d, not %q", short(x), n, s, e, want)
		}
		if strings.Contains(want, "e") {
			withExponent++
		} else {
			plain++
		}
	}
	if plain < 5000 || withExponent < 5000 {
		t.Error("so few:", plain, withExponent)
	}
}

// P25.1: small numbers against all of d times ten to the j.
func TestNumberIsNearest(t *testing.T) {
	for n := 1; n <= 2; n++ {
		var all []*big.Rat // all that a number may be rounded to, from 1/100 to 10000
		for j := -5; j <= 4; j++ {
			for d := int64(ten(n - 1).Num().Int64()); d < ten(n).Num().Int64(); d++ {
				all = append(all, new(big.Rat).Mul(big.NewRat(d, 1), ten(j)))
			}
		}
		for num := int64(1); num <= 300; num++ {
			for _, den := range []int64{1, 2, 3, 7, 16, 20, 25} {
				x := big.NewRat(num, den)
				r, _ := kept(x)
				s, e := show.Number(r, n)
				back, why, _ := rat.Parse(s)
				if e != api.OK || why != api.OK {
					t.Fatal(s, e, why)
				}
				far := new(big.Rat).Sub(x, bigOf(back))
				far.Abs(far)
				for _, other := range all {
					away := new(big.Rat).Sub(x, other)
					if away.Abs(away).Cmp(far) < 0 {
						t.Errorf("Number(%d/%d, %d) = %s, but %s is nearer", num, den, n, s, other)
					}
				}
			}
		}
	}
}

// P25.6, P7: what is told is read again, near by, and told the same.
func TestNumberIsRead(t *testing.T) {
	r := rand.New(rand.NewSource(253))
	read := 0
	for range 10000 {
		x, n := sample(r), 1+r.Intn(pick(r, 4, 9, 40))
		s, _ := show.Number(x, n)
		back, e, _ := rat.Parse(s)
		if e == api.ErrLarge && strings.Contains(s, "e") {
			continue // too many digits for rat
		}
		if e != api.OK {
			t.Errorf("%q is no number: %d", s, e)
			continue
		}
		read++
		if again, e := show.Number(back, n); again != s || e != api.OK {
			t.Errorf("Number(%s, %d) = %q, told again %q, %d", short(x), n, s, again, e)
		}
		if x.Num == "0" {
			continue
		}
		far := new(big.Rat).Sub(bigOf(x), bigOf(back))
		if far.Abs(far).Cmp(new(big.Rat).Mul(ten(lastPlace(s, n)), big.NewRat(1, 2))) > 0 {
			t.Errorf("Number(%s, %d) = %q is too far away", short(x), n, s)
		}
	}
	if read < 5000 {
		t.Error("so few:", read)
	}
}

// lastPlace: of the n digits of a text that count, the place of the last one, as a power of ten.
func lastPlace(s string, n int) int {
	s = strings.TrimPrefix(s, "-")
	mantissa, exp, _ := strings.Cut(s, "e")
	_, behind, _ := strings.Cut(mantissa, ".")
	place := -len(behind)
	if exp != "" {
		e, _ := new(big.Int).SetString(exp, 10)
		place += int(e.Int64())
	} else if behind == "" {
		place = len(mantissa) - n
	}
	return place
}
