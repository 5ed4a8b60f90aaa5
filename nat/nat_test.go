package nat_test

import (
	"math"
	"math/big"
	"math/rand"
	"strings"
	"testing"

	"cubit/api"
	"cubit/nat"
)

type two func(a, b string) (string, api.Errno)

// nines, ten: texts at the edge of what is right.
func nines(n int) string { return strings.Repeat("9", n) }
func ten(n int) string   { return "1" + strings.Repeat("0", n) }

// wrong texts: each breaks one rule of a natural number's text.
func wrongs() []string {
	return []string{"", "00", "007", "01", "-1", "+1", "-0", " 1", "1 ", "1.0", "1e3", "0x1", "/", ":", "1/", "1:", "a", "١", "1\x00", "\xff", nines(601), ten(600), "0" + nines(599)}
}

// sample: numbers of all sizes up to so many digits, with many noughts and nines in them.
func sample(r *rand.Rand, most int) string {
	digits := make([]byte, 1+r.Intn(most))
	kind := r.Intn(4)
	for i := range digits {
		switch {
		case kind == 0 || r.Intn(3) == 0:
			digits[i] = byte('0' + r.Intn(10))
		case kind == 1:
			digits[i] = '9'
		default:
			digits[i] = '0'
		}
	}
	if s := strings.TrimLeft(string(digits), "0"); s != "" {
		return s
	}
	return "0"
}

func number(s string) *big.Int {
	n, ok := new(big.Int).SetString(s, 10)
	if !ok {
		panic("no number: " + s)
	}
	return n
}

// told: the text of a result, or ErrLarge, as the chapter has it.
func told(n *big.Int) (string, api.Errno) {
	if s := n.String(); len(s) <= api.MaxDigits {
		return s, api.OK
	}
	return "", api.ErrLarge
}

func check(t *testing.T, name, got string, e api.Errno, want string, why api.Errno) {
	t.Helper()
	if got != want || e != why {
		t.Errorf("%s = %q, %d, not %q, %d", name, got, e, want, why)
	}
}

// P1.1.
func TestRight(t *testing.T) {
	for _, s := range []string{"0", "1", "9", "10", "1234567890", nines(600), ten(599)} {
		if !nat.Right(s) {
			t.Errorf("Right(%q) is false", s)
		}
	}
	for _, s := range wrongs() {
		if nat.Right(s) {
			t.Errorf("Right(%q) is true", s)
		}
	}
}

func TestRightOfEachByte(t *testing.T) {
	for b := range 256 {
		s := "1" + string([]byte{byte(b)})
		if want := b >= '0' && b <= '9'; nat.Right(s) != want {
			t.Errorf("Right(%q) is %v", s, !want)
		}
	}
}

// P1.1.
func TestDigits(t *testing.T) {
	for s, want := range map[string]int{"0": 1, "7": 1, "10": 2, nines(600): 600} {
		if n, e := nat.Digits(s); n != want || e != api.OK {
			t.Errorf("Digits(%q) = %d, %d", s, n, e)
		}
	}
	for _, s := range wrongs() {
		if n, e := nat.Digits(s); n != 0 || e != api.ErrForm {
			t.Errorf("Digits(%q) = %d, %d", s, n, e)
		}
	}
}

// P1.1.
func TestOfAndInt(t *testing.T) {
	for _, n := range []uint64{0, 1, 9, 10, 1024, 999999999, 1000000000, math.MaxInt64, math.MaxInt64 + 1, math.MaxUint64} {
		s := nat.Of(n)
		if s != new(big.Int).SetUint64(n).String() {
			t.Errorf("Of(%d) = %q", n, s)
		}
		if back, e := nat.Int(s); back != n || e != api.OK {
			t.Errorf("Int(%q) = %d, %d", s, back, e)
		}
	}
	for _, s := range []string{"18446744073709551616", "99999999999999999999", ten(20), nines(600)} {
		if n, e := nat.Int(s); n != 0 || e != api.ErrLarge {
			t.Errorf("Int(%q) = %d, %d", s, n, e)
		}
	}
	for _, s := range wrongs() {
		if n, e := nat.Int(s); n != 0 || e != api.ErrForm {
			t.Errorf("Int(%q) = %d, %d", s, n, e)
		}
	}
}

// P1.9.
func TestIntThereAndBack(t *testing.T) {
	r := rand.New(rand.NewSource(19))
	for range 2000 {
		n := r.Uint64() >> r.Intn(64)
		s := nat.Of(n)
		back, e := nat.Int(s)
		if back != n || e != api.OK || nat.Of(back) != s {
			t.Fatalf("%d: %q, %d, %d", n, s, back, e)
		}
	}
}

func TestWrongTextsGoAhead(t *testing.T) {
	calls := map[string]two{"Add": nat.Add, "Sub": nat.Sub, "Mul": nat.Mul, "Gcd": nat.Gcd,
		"Sum":  func(a, b string) (string, api.Errno) { return nat.Sum("1", a, b) },
		"Prod": func(a, b string) (string, api.Errno) { return nat.Prod("0", a, b, nines(600), nines(600)) },
		"Pow":  func(a, _ string) (string, api.Errno) { return nat.Pow(a, -1) },
		"Root": func(a, _ string) (string, api.Errno) { return nat.Root(a, 0) },
	}
	for _, s := range wrongs() {
		for name, call := range calls {
			got, e := call(s, "0")
			check(t, name+" of "+s+" and 0", got, e, "", api.ErrForm)
			if name != "Pow" && name != "Root" {
				got, e = call("0", s)
				check(t, name+" of 0 and "+s, got, e, "", api.ErrForm)
			}
		}
		for _, pair := range [][2]string{{s, "0"}, {"0", s}} {
			if n, e := nat.Cmp(pair[0], pair[1]); n != 0 || e != api.ErrForm {
				t.Errorf("Cmp of %q: %d, %d", pair, n, e)
			}
			if q, left, e := nat.DivMod(pair[0], pair[1]); q != "" || left != "" || e != api.ErrForm {
				t.Errorf("DivMod of %q: %q, %q, %d", pair, q, left, e)
			}
		}
	}
}

func TestExamples(t *testing.T) {
	great, _ := nat.Pow("10", 599)
	for _, c := range []struct {
		name string
		do   func() (string, api.Errno)
		want string
		why  api.Errno
	}{
		{"Add", func() (string, api.Errno) { return nat.Add("999", "1") }, "1000", api.OK},
		{"Sub", func() (string, api.Errno) { return nat.Sub("3", "5") }, "", api.ErrBelow},
		{"Gcd", func() (string, api.Errno) { return nat.Gcd("12", "18") }, "6", api.OK},
		{"Pow", func() (string, api.Errno) { return nat.Pow("2", 10) }, "1024", api.OK},
		{"Root", func() (string, api.Errno) { return nat.Root("1000", 3) }, "10", api.OK},
		{"Root", func() (string, api.Errno) { return nat.Root("999", 3) }, "9", api.OK},
		{"Root", func() (string, api.Errno) { return nat.Root("0", 5) }, "0", api.OK},
		{"Add", func() (string, api.Errno) { return nat.Add("", "1") }, "", api.ErrForm},
		{"Pow", func() (string, api.Errno) { return nat.Pow("10", 599) }, ten(599), api.OK},
		{"Pow", func() (string, api.Errno) { return nat.Pow("10", 600) }, "", api.ErrLarge},
		{"Prod", func() (string, api.Errno) { return nat.Prod() }, "1", api.OK},
		{"Prod", func() (string, api.Errno) { return nat.Prod(great, "10", "0") }, "0", api.OK},
	} {
		got, e := c.do()
		check(t, c.name, got, e, c.want, c.why)
	}
	if q, left, e := nat.DivMod("17", "5"); q != "3" || left != "2" || e != api.OK {
		t.Errorf("DivMod: %s, %s, %d", q, left, e)
	}
}

// P1.2, held against the library's great numbers.
func TestAddSubMulCmp(t *testing.T) {
	r := rand.New(rand.NewSource(12))
	for range 3000 {
		a, b := sample(r, 600), sample(r, 600)
		x, y := number(a), number(b)
		if n, e := nat.Cmp(a, b); n != x.Cmp(y) || e != api.OK {
			t.Fatalf("Cmp(%s, %s) = %d, %d", a, b, n, e)
		}
		got, e := nat.Add(a, b)
		want, why := told(new(big.Int).Add(x, y))
		check(t, "Add "+a+" "+b, got, e, want, why)
		got, e = nat.Mul(a, b)
		want, why = told(new(big.Int).Mul(x, y))
		check(t, "Mul "+a+" "+b, got, e, want, why)
		got, e = nat.Sub(a, b)
		if want, why = told(new(big.Int).Sub(x, y)); x.Cmp(y) < 0 {
			want, why = "", api.ErrBelow
		}
		check(t, "Sub "+a+" "+b, got, e, want, why)
		if t.Failed() {
			return
		}
	}
}

func TestAtSixHundredDigits(t *testing.T) {
	got, e := nat.Add(nines(600), "0")
	check(t, "Add 0", got, e, nines(600), api.OK)
	got, e = nat.Add(nines(600), "1")
	check(t, "Add 1", got, e, "", api.ErrLarge)
	got, e = nat.Sub(nines(600), nines(600))
	check(t, "Sub", got, e, "0", api.OK)
	got, e = nat.Mul(ten(300), ten(299))
	check(t, "Mul", got, e, ten(599), api.OK)
	got, e = nat.Mul(ten(300), ten(300))
	check(t, "Mul", got, e, "", api.ErrLarge)
	got, e = nat.Mul(nines(600), "0")
	check(t, "Mul 0", got, e, "0", api.OK)
	got, e = nat.Gcd(nines(600), nines(600))
	check(t, "Gcd", got, e, nines(600), api.OK)
	got, e = nat.Sum(nines(600), "0", "0")
	check(t, "Sum", got, e, nines(600), api.OK)
	got, e = nat.Sum("1", nines(600), "0")
	check(t, "Sum", got, e, "", api.ErrLarge)
	got, e = nat.Root(nines(600), 1)
	check(t, "Root 1", got, e, nines(600), api.OK)
	got, e = nat.Pow(nines(600), 1)
	check(t, "Pow 1", got, e, nines(600), api.OK)
	got, e = nat.Pow(nines(600), 0)
	check(t, "Pow 0", got, e, "1", api.OK)
	got, e = nat.Pow(nines(600), api.MaxPow)
	check(t, "Pow", got, e, "", api.ErrLarge)
}

// P1.3 and P1.7.
func TestDivModAndGcd(t *testing.T) {
	r := rand.New(rand.NewSource(13))
	for i := range 3000 {
		a, b := sample(r, 600), sample(r, 1+i%600)
		x, y := number(a), number(b)
		got, e := nat.Gcd(a, b)
		check(t, "Gcd "+a+" "+b, got, e, new(big.Int).GCD(nil, nil, x, y).String(), api.OK)
		q, left, e := nat.DivMod(a, b)
		if b == "0" {
			if q != "" || left != "" || e != api.ErrZero {
				t.Fatalf("DivMod(%s, 0) = %q, %q, %d", a, q, left, e)
			}
			continue
		}
		wantQ, wantLeft := new(big.Int).QuoRem(x, y, new(big.Int))
		if q != wantQ.String() || left != wantLeft.String() || e != api.OK {
			t.Fatalf("DivMod(%s, %s) = %q, %q, %d", a, b, q, left, e)
		}
		if n, _ := nat.Cmp(left, b); n >= 0 {
			t.Fatalf("DivMod(%s, %s): %s is left", a, b, left)
		}
		if next, _ := nat.Gcd(b, left); next != got {
			t.Fatalf("Gcd(%s, %s) = %s, not %s", b, left, next, got)
		}
	}
}

func TestGcdOfZero(t *testing.T) {
	for _, pair := range [][3]string{{"0", "0", "0"}, {"0", "7", "7"}, {"7", "0", "7"}, {"1", "0", "1"}, {nines(600), "0", nines(600)}} {
		got, e := nat.Gcd(pair[0], pair[1])
		check(t, "Gcd "+pair[0]+" "+pair[1], got, e, pair[2], api.OK)
	}
}

// Numbers that share much: their gcd is great, and stands in few of the samples above.
func TestGcdOfMultiples(t *testing.T) {
	r := rand.New(rand.NewSource(14))
	for range 500 {
		shared := number(sample(r, 300))
		x := new(big.Int).Mul(shared, number(sample(r, 300)))
		y := new(big.Int).Mul(shared, number(sample(r, 300)))
		got, e := nat.Gcd(x.String(), y.String())
		check(t, "Gcd", got, e, new(big.Int).GCD(nil, nil, x, y).String(), api.OK)
	}
}

// P1.4.
func TestPow(t *testing.T) {
	for _, n := range []int{-1, api.MaxPow + 1, math.MinInt, math.MaxInt} {
		for _, a := range []string{"0", "1", "2", nines(600)} {
			got, e := nat.Pow(a, n)
			check(t, "Pow", got, e, "", api.ErrArg)
		}
	}
	for _, n := range []int{0, 1, 2, api.MaxPow} {
		want := "0"
		if n == 0 {
			want = "1"
		}
		got, e := nat.Pow("0", n)
		check(t, "Pow of 0", got, e, want, api.OK)
		got, e = nat.Pow("1", n)
		check(t, "Pow of 1", got, e, "1", api.OK)
	}
	r := rand.New(rand.NewSource(15))
	for i := range 1500 {
		a, n := sample(r, 1+i%100), r.Intn(1+2000/(1+i%100))
		got, e := nat.Pow(a, n)
		want, why := told(new(big.Int).Exp(number(a), big.NewInt(int64(n)), nil))
		check(t, "Pow "+a, got, e, want, why)
	}
}

// P1.4.
func TestRoot(t *testing.T) {
	for _, n := range []int{0, -1, api.MaxPow + 1, math.MinInt, math.MaxInt} {
		got, e := nat.Root("4", n)
		check(t, "Root", got, e, "", api.ErrArg)
	}
	for _, n := range []int{1, 2, 600, api.MaxPow} {
		got, e := nat.Root("0", n)
		check(t, "Root of 0", got, e, "0", api.OK)
		got, e = nat.Root("1", n)
		check(t, "Root of 1", got, e, "1", api.OK)
	}
	got, e := nat.Root(nines(600), api.MaxPow)
	check(t, "Root", got, e, "1", api.OK)
	got, e = nat.Root(ten(599), 599)
	check(t, "Root", got, e, "10", api.OK)
}

// P1.8, of roots: no other number has both.
func TestRootIsBetween(t *testing.T) {
	r := rand.New(rand.NewSource(16))
	for i := range 300 {
		a, n := sample(r, 600), 1+r.Intn(1+i*2)
		root, e := nat.Root(a, n)
		if e != api.OK {
			t.Fatalf("Root(%s, %d): %d", a, n, e)
		}
		exp := big.NewInt(int64(n))
		low := new(big.Int).Exp(number(root), exp, nil)
		high := new(big.Int).Exp(new(big.Int).Add(number(root), big.NewInt(1)), exp, nil)
		if low.Cmp(number(a)) > 0 || high.Cmp(number(a)) <= 0 {
			t.Fatalf("Root(%s, %d) = %s", a, n, root)
		}
	}
}

// Square roots go another way than others.
func TestSquareRoots(t *testing.T) {
	square := func(a *big.Int) {
		t.Helper()
		got, e := nat.Root(a.String(), 2)
		check(t, "Root of "+a.String(), got, e, new(big.Int).Sqrt(a).String(), api.OK)
	}
	for n := range int64(10001) {
		square(big.NewInt(n))
	}
	r := rand.New(rand.NewSource(18))
	for i := range 2000 {
		root := number(sample(r, 1+i%300))
		a := new(big.Int).Mul(root, root)
		square(a)
		square(new(big.Int).Add(a, root))
		square(new(big.Int).Add(a, big.NewInt(1)))
		if a.Sign() > 0 {
			square(new(big.Int).Sub(a, big.NewInt(1)))
		}
	}
	square(number(nines(600)))
	square(number(ten(599)))
}

func TestRootOfPowers(t *testing.T) {
	r := rand.New(rand.NewSource(17))
	for i := range 200 {
		n := 2 + i%40
		a := sample(r, 600/n)
		power, e := nat.Pow(a, n)
		if e != api.OK || a == "0" {
			continue
		}
		got, e := nat.Root(power, n)
		check(t, "Root of a power", got, e, a, api.OK)
		less, _ := nat.Sub(power, "1")
		got, e = nat.Root(less, n)
		want, _ := nat.Sub(a, "1")
		check(t, "Root of one less", got, e, want, api.OK)
	}
}

// P1.8, of powers.
func TestPowOfSums(t *testing.T) {
	r := rand.New(rand.NewSource(18))
	for range 300 {
		a, m, n := sample(r, 12), r.Intn(20), r.Intn(20)
		x, _ := nat.Pow(a, m)
		y, _ := nat.Pow(a, n)
		want, _ := nat.Mul(x, y)
		got, e := nat.Pow(a, m+n)
		check(t, "Pow of a sum", got, e, want, api.OK)
	}
}

// P1.5.
func TestSumAndProd(t *testing.T) {
	got, e := nat.Sum()
	check(t, "Sum of none", got, e, "0", api.OK)
	got, e = nat.Prod()
	check(t, "Prod of none", got, e, "1", api.OK)
	r := rand.New(rand.NewSource(11))
	for i := range 500 {
		l := make([]string, r.Intn(12))
		sum, product := big.NewInt(0), big.NewInt(1)
		for j := range l {
			l[j] = sample(r, 1+i)
			sum.Add(sum, number(l[j]))
			product.Mul(product, number(l[j]))
		}
		got, e := nat.Sum(l...)
		want, why := told(sum)
		check(t, "Sum", got, e, want, why)
		got, e = nat.Prod(l...)
		want, why = told(product)
		check(t, "Prod", got, e, want, why)
	}
}

func TestProdOfZeroAndGreatOnes(t *testing.T) {
	l := make([]string, 5000)
	for i := range l {
		l[i] = nines(600)
	}
	got, e := nat.Prod(l...)
	check(t, "Prod", got, e, "", api.ErrLarge)
	for _, at := range []int{0, 2500, 4999} {
		l[at] = "0"
		got, e = nat.Prod(l...)
		check(t, "Prod", got, e, "0", api.OK)
		l[at] = "00"
		got, e = nat.Prod(l...)
		check(t, "Prod", got, e, "", api.ErrForm)
		l[at] = nines(600)
	}
	if l[0] != nines(600) {
		t.Error("the list was changed")
	}
}

// P1.6.
func TestLaws(t *testing.T) {
	r := rand.New(rand.NewSource(20))
	do := func(call two, a, b string) string {
		s, e := call(a, b)
		if e != api.OK {
			t.Fatalf("%s, %s: %d", a, b, e)
		}
		return s
	}
	for range 500 {
		a, b, c := sample(r, 190), sample(r, 190), sample(r, 190)
		for _, call := range []two{nat.Add, nat.Mul} {
			if do(call, a, b) != do(call, b, a) || do(call, do(call, a, b), c) != do(call, a, do(call, b, c)) {
				t.Fatalf("%s, %s, %s: not commutative, or not associative", a, b, c)
			}
		}
		if do(nat.Mul, a, do(nat.Add, b, c)) != do(nat.Add, do(nat.Mul, a, b), do(nat.Mul, a, c)) {
			t.Fatalf("%s, %s, %s: Mul does not go over Add", a, b, c)
		}
		if do(nat.Sub, do(nat.Add, a, b), b) != a {
			t.Fatalf("%s, %s: Sub is not back", a, b)
		}
		n, _ := nat.Cmp(a, b)
		if m, _ := nat.Cmp(do(nat.Add, a, c), do(nat.Add, b, c)); m != n {
			t.Fatalf("%s, %s, %s: Cmp does not go with Add", a, b, c)
		}
	}
}

// P1, of this layer: any bytes, any numbers.
func TestAnyBytes(t *testing.T) {
	r := rand.New(rand.NewSource(10))
	text := func() string {
		b := make([]byte, r.Intn(30))
		for i := range b {
			if b[i] = byte('0' + r.Intn(10)); r.Intn(20) == 0 {
				b[i] = byte(r.Intn(256))
			}
		}
		return string(b)
	}
	for range 5000 {
		a, b, n := text(), text(), int(int16(r.Uint32()))
		want := api.OK
		if !nat.Right(a) || !nat.Right(b) {
			want = api.ErrForm
		}
		if _, e := nat.Add(a, b); e != want {
			t.Fatalf("Add(%q, %q): %d", a, b, e)
		}
		if _, e := nat.Gcd(a, b); e != want {
			t.Fatalf("Gcd(%q, %q): %d", a, b, e)
		}
		if _, _, e := nat.DivMod(a, b); e != want && e != api.ErrZero {
			t.Fatalf("DivMod(%q, %q): %d", a, b, e)
		}
		if _, e := nat.Pow(a, n); (e == api.ErrForm) == nat.Right(a) {
			t.Fatalf("Pow(%q, %d): %d", a, n, e)
		}
		if _, e := nat.Root(a, n); (e == api.ErrForm) == nat.Right(a) {
			t.Fatalf("Root(%q, %d): %d", a, n, e)
		}
	}
}
