package rat_test

import (
	"math"
	"math/big"
	"math/rand"
	"regexp"
	"strings"
	"testing"

	"cubit/api"
	"cubit/rat"
)

// P2.2.
func TestParse(t *testing.T) {
	for s, want := range map[string]string{
		"-1.250e-1": "-1/8", "007/014": "1/2", "0e600": "0", "-0": "0", "0": "0", "-0.00e5": "0", "-0/5": "0", "000": "0", "5": "5", "-5": "-5",
		"12.50": "25/2", "1E3": "1000", "1e+3": "1000", "1e-3": "1/1000", "1.5e1": "15", "1.5E0": "3/2", "-00012": "-12", "0.1": "1/10", "1e000000000000000000003": "1000", "-6/4": "-3/2", "10/1": "10",
		"1e599": ten(599), "-1e599": "-" + ten(599), "1.0e599": ten(599), "1e-599": "1/" + ten(599), "0e4096": "0", "0e0004096": "0", "0e-599": "0", "0.0e600": "0",
		nines(600): nines(600), "00" + nines(600): nines(600), "0." + nought(598) + "1": "1/" + ten(599), nines(600) + "/" + nines(600): "1", nought(700) + "1/" + nought(700) + "2": "1/2",
		"1." + nought(599): "1", nines(1) + "." + nines(599): nines(600) + "/" + ten(599), nines(599) + ".9": nines(600) + "/10",
	} {
		got, e, at := rat.Parse(s)
		check(t, "Parse "+s, got, e, frac(want), api.OK)
		if at != 0 {
			t.Errorf("Parse(%q) is at %d", s, at)
		}
	}
}

// P2.2: the errors, their order and their places.
func TestParseFaults(t *testing.T) {
	for _, c := range []struct {
		s  string
		e  api.Errno
		at int
	}{
		{"", api.ErrForm, 0}, {"+1", api.ErrForm, 0}, {" 1", api.ErrForm, 0}, {".5", api.ErrForm, 0}, {"e5", api.ErrForm, 0}, {"/2", api.ErrForm, 0}, {"\xff", api.ErrForm, 0}, {"x", api.ErrForm, 0},
		{"-", api.ErrForm, 1}, {"--1", api.ErrForm, 1}, {"-.5", api.ErrForm, 1}, {"-/2", api.ErrForm, 1}, {"1 ", api.ErrForm, 1}, {"1x", api.ErrForm, 1}, {"1\x00", api.ErrForm, 1}, {"1-", api.ErrForm, 1}, {"٣", api.ErrForm, 0}, {"1,5", api.ErrForm, 1},
		{"1.", api.ErrForm, 2}, {"1..", api.ErrForm, 2}, {"1.e5", api.ErrForm, 2}, {"1.-5", api.ErrForm, 2}, {"1./2", api.ErrForm, 2}, {"1.5.", api.ErrForm, 3}, {"1.5/2", api.ErrForm, 3}, {"1.5x", api.ErrForm, 3},
		{"1e", api.ErrForm, 2}, {"1E", api.ErrForm, 2}, {"1ee", api.ErrForm, 2}, {"1e+", api.ErrForm, 3}, {"1e-", api.ErrForm, 3}, {"1e+-5", api.ErrForm, 3}, {"1e5x", api.ErrForm, 3}, {"1e5.", api.ErrForm, 3}, {"1e5/2", api.ErrForm, 3}, {"1e5e", api.ErrForm, 3}, {"1e-5-", api.ErrForm, 4},
		{"1/", api.ErrForm, 2}, {"1//", api.ErrForm, 2}, {"1/-2", api.ErrForm, 2}, {"1/+2", api.ErrForm, 2}, {"1/2/3", api.ErrForm, 3}, {"1/2.5", api.ErrForm, 3}, {"1/2e3", api.ErrForm, 3}, {"1/0x", api.ErrForm, 3}, {nines(700) + "x", api.ErrForm, 700}, {"1/0/", api.ErrForm, 3},
		{"3/0", api.ErrZero, 2}, {"-3/0", api.ErrZero, 3}, {"0/0", api.ErrZero, 2}, {"007/000", api.ErrZero, 4}, {nines(601) + "/0", api.ErrZero, 602}, {"1/" + nought(700), api.ErrZero, 2},
		{"1e600", api.ErrLarge, 0}, {"0e5000", api.ErrLarge, 0}, {"0e4097", api.ErrLarge, 0}, {"0e-4097", api.ErrLarge, 0}, {"1e4096", api.ErrLarge, 0}, {"1e-600", api.ErrLarge, 0}, {"0e-600", api.ErrLarge, 0}, {"10e-600", api.ErrLarge, 0}, {"1.0e600", api.ErrLarge, 0}, {"10e599", api.ErrLarge, 0}, {"1e18446744073709551617", api.ErrLarge, 0}, {"1e-18446744073709551617", api.ErrLarge, 0}, {"0e99999999999999999999999", api.ErrLarge, 0},
		{ten(600), api.ErrLarge, 0}, {"-" + nines(601), api.ErrLarge, 0}, {ten(600) + "e-10", api.ErrLarge, 0}, {"1." + nought(600), api.ErrLarge, 0}, {"0." + nought(600), api.ErrLarge, 0}, {nines(601) + "/" + nines(601), api.ErrLarge, 0}, {nines(601) + "/1", api.ErrLarge, 0}, {"1/" + nines(601), api.ErrLarge, 0}, {nines(600) + ".9", api.ErrLarge, 0}, {ten(600) + "/10", api.ErrLarge, 0}, {"10/" + ten(600), api.ErrLarge, 0}, {"1" + nought(600) + "e-1", api.ErrLarge, 0},
	} {
		got, e, at := rat.Parse(c.s)
		if got != (api.Rat{}) || e != c.e || at != c.at {
			t.Errorf("Parse(%q) = %v, %d, %d, not %d, %d", c.s, got, e, at, c.e, c.at)
		}
	}
}

func TestParseAtMaxText(t *testing.T) {
	full := nought(api.MaxText-1) + "7"
	got, e, at := rat.Parse(full)
	check(t, "Parse of 65536 bytes", got, e, frac("7"), api.OK)
	if at != 0 {
		t.Errorf("at %d", at)
	}
	for _, s := range []string{"0" + full, "x" + full, strings.Repeat("\xff", api.MaxText+1)} {
		if got, e, at := rat.Parse(s); got != (api.Rat{}) || e != api.ErrSize || at != 0 {
			t.Errorf("Parse of %d bytes = %v, %d, %d", len(s), got, e, at)
		}
	}
	if _, e, at := rat.Parse(full[1:] + "x"); e != api.ErrForm || at != api.MaxText-1 {
		t.Errorf("Parse = %d, %d", e, at)
	}
	if _, e, at := rat.Parse(nines(api.MaxText)); e != api.ErrLarge || at != 0 {
		t.Errorf("Parse = %d, %d", e, at)
	}
	if _, e, at := rat.Parse("0." + nought(api.MaxText-2)); e != api.ErrLarge || at != 0 {
		t.Errorf("Parse = %d, %d", e, at)
	}
	got, e, _ = rat.Parse("1e" + nought(api.MaxText-3) + "3")
	check(t, "Parse of a long exponent", got, e, frac("1000"), api.OK)
}

// Texts made of the bytes of numbers at random, held against the form as the chapter writes it.
func TestParseOfRandomTexts(t *testing.T) {
	form := regexp.MustCompile(`^-?[0-9]+(\.[0-9]+)?([eE][+-]?[0-9]+)?$|^-?[0-9]+/[0-9]+$`)
	begins := regexp.MustCompile(`^(-?|-?[0-9]+(\.|\.[0-9]+)?|-?[0-9]+(\.[0-9]+)?[eE][+-]?[0-9]*|-?[0-9]+/[0-9]*)$`)
	r := rand.New(rand.NewSource(22))
	for range 60000 {
		b := make([]byte, r.Intn(9))
		for i := range b {
			b[i] = "0012345-+./eEx"[r.Intn(14)]
		}
		s := string(b)
		got, e, at := rat.Parse(s)
		if form.MatchString(s) {
			want, ok := valueOf(s)
			switch {
			case !ok && strings.Contains(s, "/"):
				if e != api.ErrZero || at != strings.Index(s, "/")+1 {
					t.Fatalf("Parse(%q) = %d, %d", s, e, at)
				}
			case e == api.OK:
				if v, _ := told(want); got != v || at != 0 {
					t.Fatalf("Parse(%q) = %v", s, got)
				}
			case e != api.ErrLarge || at != 0 || !strings.ContainsAny(s, "eE"):
				t.Fatalf("Parse(%q) = %d, %d", s, e, at)
			}
			continue
		}
		place := 0
		for place < len(s) && begins.MatchString(s[:place+1]) {
			place++
		}
		if got != (api.Rat{}) || e != api.ErrForm || at != place {
			t.Fatalf("Parse(%q) = %v, %d, %d, not at %d", s, got, e, at, place)
		}
	}
}

// valueOf: by the library, which reads fractions with noughts ahead as octal ones: so these go first.
func valueOf(s string) (*big.Rat, bool) {
	num, den, cut := strings.Cut(s, "/")
	if !cut {
		return new(big.Rat).SetString(s)
	}
	above, _ := new(big.Int).SetString(num, 10)
	under, _ := new(big.Int).SetString(den, 10)
	if under.Sign() == 0 {
		return nil, false
	}
	return new(big.Rat).SetFrac(above, under), true
}

func TestParseAnyBytes(t *testing.T) {
	r := rand.New(rand.NewSource(23))
	for range 5000 {
		b := make([]byte, r.Intn(50))
		r.Read(b)
		got, e, at := rat.Parse(string(b))
		if e != api.OK && got != (api.Rat{}) || at < 0 || at > len(b) || e == api.OK && !rat.Right(got) {
			t.Fatalf("Parse(%q) = %v, %d, %d", b, got, e, at)
		}
	}
}

// P2.3.
func TestPrint(t *testing.T) {
	for _, s := range []string{"0", "7", "-7", "1/2", "-22/7", nines(600), "1/" + nines(600)} {
		if got, e := rat.Print(frac(s)); got != s || e != api.OK {
			t.Errorf("Print(%s) = %q, %d", s, got, e)
		}
	}
}

// P2.3.
func TestDigits(t *testing.T) {
	for _, c := range []struct {
		a      string
		places int
		want   string
	}{
		{"-1/1000", 2, "0.00"}, {"22/7", 4, "3.1429"}, {"0", 0, "0"}, {"0", 3, "0.000"}, {"-7", 0, "-7"}, {"-7", 1, "-7.0"}, {"5/2", 0, "2"}, {"7/2", 0, "4"}, {"-5/2", 0, "-2"}, {"-1/2", 0, "0"}, {"-3/2", 0, "-2"}, {"1/8", 2, "0.12"}, {"3/8", 2, "0.38"}, {"-1/8", 3, "-0.125"}, {"1/10", 1, "0.1"}, {"99/10", 0, "10"}, {"999/1000", 2, "1.00"}, {"1/1000", 3, "0.001"}, {"2469/20", 1, "123.4"},
		{nines(600), 0, nines(600)}, {"-" + nines(600), 0, "-" + nines(600)}, {nines(599), 1, nines(599) + ".0"}, {"0", 600, "0." + nought(600)}, {"1/3", 600, "0." + repeat("3", 600)}, {"-1/3", 600, "-0." + repeat("3", 600)}, {"1/2", 600, "0.5" + nought(599)}, {"1/" + ten(599), 600, "0." + nought(598) + "10"}, {"1/" + nines(600), 600, "0." + nought(599) + "1"}, {"1/" + nines(600), 599, "0." + nought(599)},
	} {
		if got, e := rat.Digits(frac(c.a), c.places); got != c.want || e != api.OK {
			t.Errorf("Digits(%s, %d) = %q, %d", c.a, c.places, got, e)
		}
	}
	for _, places := range []int{-1, api.MaxDigits + 1, math.MinInt, math.MaxInt} {
		if got, e := rat.Digits(frac("1/3"), places); got != "" || e != api.ErrArg {
			t.Errorf("Digits(1/3, %d) = %q, %d", places, got, e)
		}
	}
	for a, places := range map[string]int{nines(600): 1, "-" + nines(600): 600, "1": 600, nines(599): 2, nines(600) + "/2": 1} {
		if got, e := rat.Digits(frac(a), places); got != "" || e != api.ErrLarge {
			t.Errorf("Digits(%s, %d) = %q, %d", a, places, got, e)
		}
	}
}

// P2.10.
func TestTextsThereAndBack(t *testing.T) {
	r := rand.New(rand.NewSource(30))
	decimal := regexp.MustCompile(`^-?(0|[1-9][0-9]*)(\.[0-9]+)?$`)
	for i := range 3000 {
		a, places := sample(r, sizeOf(i)), r.Intn(40)
		s, e := rat.Print(a)
		if back, why, at := rat.Parse(s); back != a || e != api.OK || why != api.OK || at != 0 {
			t.Fatalf("Parse(%s) = %v, %d, %d", s, back, why, at)
		}
		s, e = rat.Digits(a, places)
		if e == api.ErrLarge {
			continue
		}
		_, behind, point := strings.Cut(s, ".")
		if !decimal.MatchString(s) || len(behind) != places || point != (places > 0) {
			t.Fatalf("Digits(%v, %d) = %s", a, places, s)
		}
		want, _ := rat.Round(a, places)
		back, why, _ := rat.Parse(s)
		if back != want || why != api.OK {
			t.Fatalf("Parse(%s) = %v, %d, not %v", s, back, why, want)
		}
		off := new(big.Rat).Sub(value(back), value(a))
		if off.Abs(off).Cmp(new(big.Rat).Quo(power(-places), power(0).SetInt64(2))) > 0 {
			t.Fatalf("Digits(%v, %d) = %s is too far", a, places, s)
		}
	}
}
