package flo_test

import (
	"math"
	"math/big"
	"math/rand"
	"strconv"
	"strings"
	"testing"

	"cubit/api"
	"cubit/flo"
	"cubit/rat"
)

// P3.2.
func TestText(t *testing.T) {
	tenth, fifth := 0.1, 0.2
	for want, f := range map[string]float64{
		"NaN": nan, "+Inf": inf, "-Inf": -inf, "0": 0, "-0": negZero,
		"0.1": 0.1, "-0.1": -0.1, "1": 1, "-1": -1, "10": 10, "1.5": 1.5, "100": 100, "123.456": 123.456, "12345678901234568": 12345678901234568,
		"100000000000000000000": 1e20, "1e+21": 1e21, "-1e+21": -1e21, "123456789012345680000": 123456789012345680000, "1.2345678901234568e+21": 1234567890123456789012, "999999999999999900000": 999999999999999900000,
		"0.000001": 0.000001, "0.00000123": 0.00000123, "1e-7": 1e-7, "1.5e-7": 1.5e-7, "9.99e-7": 9.99e-7, "0.00001": 0.00001, "0.01": 0.01,
		"5e-324": least, "1e-323": 2 * least, "-5e-324": -least, "2.2250738585072014e-308": normal, "2.225073858507201e-308": math.Nextafter(normal, 0), "1.7976931348623157e+308": most, "1e+100": 1e100, "1e+22": 1e22, "1e+23": 1e23, "9.999999999999997e+22": math.Nextafter(1e23, 0),
		"9007199254740992": 1 << 53, "9007199254740994": 1<<53 + 2, "0.30000000000000004": tenth + fifth, "5.684341886080802e-14": 0x1p-44,
		"1125899906842624.2": 0x1p50 + 0.25, "1125899906842624.8": 0x1p50 + 0.75, // two with 17 digits are equally near
	} {
		if got := flo.Text(f); got != want {
			t.Errorf("Text(%v) = %s, not %s", f, got, want)
		}
	}
	for _, f := range nans() {
		if got := flo.Text(f); got != "NaN" {
			t.Errorf("Text(%x) = %s", math.Float64bits(f), got)
		}
	}
}

// beside: the decimals with k digits that lie next to v on both sides, d times ten to the j.
func beside(v *big.Rat, k int) (low, high *big.Int, j int) {
	size, _ := v.Float64()
	j = int(math.Floor(math.Log10(size))) + 2 - k
	for ; ; j-- {
		scaled := new(big.Rat).Quo(v, tenth(j))
		low = new(big.Int).Quo(scaled.Num(), scaled.Denom())
		if len(low.String()) >= k && low.Sign() > 0 {
			return low, new(big.Int).Add(low, big.NewInt(1)), j
		}
	}
}

func tenth(j int) *big.Rat {
	p := new(big.Rat).SetInt(new(big.Int).Exp(big.NewInt(10), big.NewInt(int64(max(j, -j))), nil))
	if j < 0 {
		p.Inv(p)
	}
	return p
}

// fewest: what the chapter says of the digits, by trying each number of them, from 1 on.
func fewest(t *testing.T, f float64) (string, int) {
	t.Helper()
	v := exactly(f)
	for k := 1; k <= 17; k++ {
		low, high, j := beside(v, k)
		best, off := "", new(big.Rat)
		for _, d := range []*big.Int{low, high} {
			text := d.String() + "e" + strconv.Itoa(j)
			if g, err := strconv.ParseFloat(text, 64); err != nil || g != f {
				continue
			}
			gap := new(big.Rat).Sub(v, new(big.Rat).Mul(new(big.Rat).SetInt(d), tenth(j)))
			order := gap.Abs(gap).Cmp(off)
			if best == "" || order < 0 || order == 0 && d.Bit(0) == 0 {
				best, off = d.String(), gap
			}
		}
		if best != "" {
			return strings.TrimRight(best, "0"), len(best) + j
		}
	}
	t.Fatalf("%v has no text", f)
	return "", 0
}

// digitsOf: the digits of a text, and the n for which it is 0.digits times ten to the n.
func digitsOf(text string) (string, int) {
	head, exp, _ := strings.Cut(text, "e")
	n, _ := strconv.Atoi(exp)
	ahead, behind, _ := strings.Cut(head, ".")
	n += len(ahead)
	all := strings.TrimLeft(ahead+behind, "0")
	n -= len(ahead+behind) - len(all)
	return strings.TrimRight(all, "0"), n
}

// P3.2.
func TestTextHasTheFewestDigits(t *testing.T) {
	for _, f := range samples(41, 4000) {
		if f = math.Abs(f); f == 0 {
			continue
		}
		digits, n := fewest(t, f)
		if got, at := digitsOf(flo.Text(f)); got != digits || at != n {
			t.Fatalf("Text(%v) = %s, not %s and %d", f, flo.Text(f), digits, n)
		}
	}
}

// P3.2: of each power of two, the room below which is smaller than that above.
func TestTextOfPowers(t *testing.T) {
	for e := -1074; e < 1024; e++ {
		f := math.Ldexp(1, e)
		digits, n := fewest(t, f)
		if got, at := digitsOf(flo.Text(f)); got != digits || at != n {
			t.Fatalf("Text(2^%d) = %s, not %s and %d", e, flo.Text(f), digits, n)
		}
	}
}

// P3.2: where the text is told plainly, and where with e.
func TestTextIsLaidOut(t *testing.T) {
	for _, f := range samples(42, 4000) {
		text := flo.Text(f)
		plain := strconv.FormatFloat(f, 'f', -1, 64)
		size := math.Abs(f)
		if size >= 1e21 || size < 1e-6 && size > 0 {
			plain = strconv.FormatFloat(f, 'e', -1, 64)
			head, exp, _ := strings.Cut(plain, "e")
			plain = head + "e" + exp[:1] + strings.TrimLeft(exp[1:], "0")
		}
		if text != plain {
			t.Fatalf("Text(%v) = %s, not %s", f, text, plain)
		}
	}
}

// P3.7.
func TestParseOfText(t *testing.T) {
	for _, f := range append(samples(43, 6000), inf, -inf) {
		text := flo.Text(f)
		if back, e := flo.Parse(text); e != api.OK || !same(back, f) {
			t.Fatalf("Parse(Text(%v)) = %v, %d", f, back, e)
		}
		digits, _ := digitsOf(strings.TrimPrefix(text, "-"))
		if f == 0 || math.IsInf(f, 0) || len(digits) < 2 {
			continue
		}
		low, high, j := beside(exactly(math.Abs(f)), len(digits)-1)
		for _, d := range []*big.Int{low, high} {
			if g, e := flo.Parse(d.String() + "e" + strconv.Itoa(j)); e == api.OK && g == math.Abs(f) {
				t.Fatalf("%v is read from %se%d, too, which is shorter than %s", f, d, j, text)
			}
		}
	}
	for _, f := range nans() {
		if back, e := flo.Parse(flo.Text(f)); back == back || e != api.OK {
			t.Errorf("Parse(Text(%v)) = %v, %d", f, back, e)
		}
	}
}

func checkParse(t *testing.T, s string, want float64, why api.Errno) {
	t.Helper()
	if got, e := flo.Parse(s); !same(got, want) || e != why {
		t.Errorf("Parse(%q) = %v, %d, not %v, %d", s, got, e, want, why)
	}
}

// P3.3.
func TestParse(t *testing.T) {
	for s, want := range map[string]float64{
		"NaN": nan, "+Inf": inf, "-Inf": -inf, "0": 0, "-0": negZero, "-0.000": negZero, "0e99999999999": 0, "-0e99999999999999999999": negZero, "000": 0, "-00e-5": negZero, "0.0e+7": 0,
		"1": 1, "007": 7, "-1.250e-1": -0.125, "1E3": 1000, "1e+3": 1000, "1e-3": 0.001, "0.1": 0.1, "00.1e000000000000000000001": 1, "1e0": 1, "1e-0": 1, "123456789012345678901234567890": 123456789012345678901234567890,
		"-1e-400": negZero, "1e-400": 0, "1e-99999999999999999999999": 0, "-1e-99999999999999999999999": negZero, "2.4703282292062327208e-324": 0, "2.4703282292062328e-324": least, "-2.4703282292062327e-324": negZero, "3e-324": least, "5e-324": least,
		"1.7976931348623157e308": most, "1.7976931348623158e308": most, "1.797693134862315807e308": most, "-1.797693134862315807e+308": -most, "9007199254740993": 9007199254740992, "9007199254740993.0000000000000000000000001": 9007199254740994, "9007199254740992.9999999999": 9007199254740992,
		"1e23": 1e23, "8.5e22": 8.5e22, "2.2250738585072011e-308": 2.2250738585072011e-308,
	} {
		checkParse(t, s, want, api.OK)
	}
	for _, s := range []string{"1e400", "-1e400", "1e309", "1.7976931348623159e308", "1.797693134862315808e308", "1e99999999999999999999999999", "-1e99999", "1" + strings.Repeat("0", 400), "0." + strings.Repeat("0", 300) + "1e611"} {
		checkParse(t, s, 0, api.ErrInf)
	}
}

// P3.3.
func TestParseForms(t *testing.T) {
	for _, s := range []string{"", "-", "+", ".", ".5", "-.5", "5.", "5.e3", "e5", "1e", "1E", "1e+", "1e-", "1e+-1", "1e1.5", "1ee5", "1.2.3", "+1", "+0", "--1", "- 1", " 1", "1 ", "1\n", "1,5", "1_000", "0x10", "0x1p3", "1p3", "1f", "Inf", "inf", "+inf", "-inf", "+Infinity", "Infinity", "nan", "-NaN", "+NaN", "NaN ", "1/2", "1/0", "1(2)", "\xff", "1\x00", "\u0661", "1e\u0661", "one"} {
		checkParse(t, s, 0, api.ErrForm)
	}
}

// P3.3: just 1000 bytes, and one more.
func TestParseLong(t *testing.T) {
	checkParse(t, "1"+strings.Repeat("0", 999), 0, api.ErrInf)
	checkParse(t, "1"+strings.Repeat("0", 1000), 0, api.ErrForm)
	checkParse(t, strings.Repeat("0", 999)+"7", 7, api.OK)
	checkParse(t, strings.Repeat("0", 1000)+"7", 0, api.ErrForm)
	checkParse(t, "0."+strings.Repeat("0", 993)+"1e995", 10, api.OK) // 1000 bytes
	checkParse(t, "1"+strings.Repeat("0", 994)+"e-995", 0.1, api.OK)
	checkParse(t, "0."+strings.Repeat("0", 994)+"1e996", 0, api.ErrForm)
	checkParse(t, "1e"+strings.Repeat("0", 997)+"2", 100, api.OK)
	checkParse(t, "1e"+strings.Repeat("9", 998), 0, api.ErrInf)
	checkParse(t, "-1e-"+strings.Repeat("9", 996), negZero, api.OK)
	// Half way, but for the last one of many digits.
	half := "9007199254740993." + strings.Repeat("0", 982)
	checkParse(t, half+"0", 9007199254740992, api.OK)
	checkParse(t, half+"1", 9007199254740994, api.OK)
}

// P3.3.
func TestParseIsNearest(t *testing.T) {
	r := rand.New(rand.NewSource(44))
	for i, f := range samples(44, 6000) {
		text := strconv.FormatFloat(f, 'e', r.Intn(25), 64)
		if i%2 == 0 { // all digits of what is half way to the next one
			next := flo.Next(f, true)
			if math.IsInf(next, 0) {
				continue
			}
			half := exactly(f)
			half.Add(half, exactly(next)).Quo(half, big.NewRat(2, 1))
			text = half.FloatString(1080)
			text = strings.TrimRight(text, "0")
			text = strings.TrimSuffix(text, ".")
			if len(text) > 1000 {
				continue
			}
		}
		want, err := strconv.ParseFloat(text, 64)
		why := api.OK
		if err != nil {
			want, why = 0, api.ErrInf
		}
		checkParse(t, text, want, why)
		// What rat reads, too, Near makes the same of.
		if v, e, _ := rat.Parse(text); e == api.OK && v.Num != "0" {
			checkNear(t, v, want, why)
		}
	}
}
