package rat_test

import (
	"math"
	"math/big"
	"math/rand"
	"testing"

	"cubit/api"
	"cubit/rat"
)

type two func(a, b api.Rat) (api.Rat, api.Errno)

// P2.1.
func TestRight(t *testing.T) {
	for _, s := range []string{"0", "1", "-1", "1/2", "-3/2", nines(600), "-" + nines(600), "1/" + nines(600), nines(600) + "/" + ten(599)} {
		if !rat.Right(frac(s)) {
			t.Errorf("Right(%s) is false", s)
		}
	}
	for _, r := range wrongs() {
		if rat.Right(r) {
			t.Errorf("Right(%q) is true", r)
		}
	}
}

// P2.1.
func TestNew(t *testing.T) {
	for _, c := range []struct {
		num, den, want string
		why            api.Errno
	}{
		{"6", "-4", "", api.ErrForm}, {"-6", "4", "-3/2", api.OK}, {"-0", "7", "0", api.OK}, {"1", "0", "", api.ErrZero},
		{"0", "7", "0", api.OK}, {"0", "0", "", api.ErrZero}, {"-0", "0", "", api.ErrZero}, {"7", "7", "1", api.OK}, {"-7", "7", "-1", api.OK}, {"10", "4", "5/2", api.OK},
		{"", "1", "", api.ErrForm}, {"1", "", "", api.ErrForm}, {"-", "1", "", api.ErrForm}, {"+1", "1", "", api.ErrForm}, {"--1", "1", "", api.ErrForm}, {"01", "1", "", api.ErrForm}, {"-00", "1", "", api.ErrForm}, {"1", "01", "", api.ErrForm}, {"1", "00", "", api.ErrForm}, {"x", "0", "", api.ErrForm}, {"1.5", "1", "", api.ErrForm},
		{nines(600), nines(600), "1", api.OK}, {"-" + nines(600), "3", "-" + repeat("3", 600), api.OK}, {ten(600), "1", "", api.ErrForm}, {"1", ten(600), "", api.ErrForm}, {"-" + ten(600), "0", "", api.ErrForm},
	} {
		want := api.Rat{}
		if c.why == api.OK {
			want = frac(c.want)
		}
		got, e := rat.New(c.num, c.den)
		check(t, "New "+c.num+" "+c.den, got, e, want, c.why)
	}
}

func repeat(s string, n int) string {
	out := ""
	for range n {
		out += s
	}
	return out
}

func TestNewComesToLowestTerms(t *testing.T) {
	r := rand.New(rand.NewSource(21))
	for i := range 2000 {
		num, den := digits(r, sizeOf(i)), digits(r, sizeOf(i/8))
		if den == "0" {
			continue
		}
		if i%2 == 0 {
			num = "-" + num
		}
		got, e := rat.New(num, den)
		want, why := told(value(api.Rat{Num: num, Den: den}))
		check(t, "New", got, e, want, why)
		if !rat.Right(got) {
			t.Fatalf("New(%s, %s) is not right", num, den)
		}
	}
}

// P2.1.
func TestOf(t *testing.T) {
	for _, n := range []int64{0, 1, -1, 10, -10, 1234567890123, math.MaxInt64, math.MinInt64, math.MinInt64 + 1} {
		got := rat.Of(n)
		if want, _ := told(new(big.Rat).SetInt64(n)); got != want {
			t.Errorf("Of(%d) = %v", n, got)
		}
	}
}

// In every call: ErrForm ahead of all else, and nothing beside it.
func TestWrongNumbersGoAhead(t *testing.T) {
	zero, none := rat.Of(0), api.Rat{}
	for _, w := range wrongs() {
		for name, call := range map[string]two{"Add": rat.Add, "Sub": rat.Sub, "Mul": rat.Mul, "Quo": rat.Quo, "Simple": rat.Simple,
			"Sum":   func(a, b api.Rat) (api.Rat, api.Errno) { return rat.Sum(a, b) },
			"Prod":  func(a, b api.Rat) (api.Rat, api.Errno) { return rat.Prod(zero, a, b) },
			"Neg":   func(a, b api.Rat) (api.Rat, api.Errno) { return rat.Neg(w) },
			"Inv":   func(a, b api.Rat) (api.Rat, api.Errno) { return rat.Inv(w) },
			"Pow":   func(a, b api.Rat) (api.Rat, api.Errno) { return rat.Pow(w, api.MaxPow+1) },
			"Floor": func(a, b api.Rat) (api.Rat, api.Errno) { return rat.Floor(w) },
			"Round": func(a, b api.Rat) (api.Rat, api.Errno) { return rat.Round(w, api.MaxDigits+1) },
		} {
			got, e := call(w, zero)
			check(t, name, got, e, none, api.ErrForm)
			got, e = call(rat.Of(1), w)
			check(t, name, got, e, none, api.ErrForm)
		}
		for name, call := range map[string]func() (string, api.Errno){
			"Print":  func() (string, api.Errno) { return rat.Print(w) },
			"Digits": func() (string, api.Errno) { return rat.Digits(w, -1) },
		} {
			if s, e := call(); s != "" || e != api.ErrForm {
				t.Errorf("%s of %v: %q, %d", name, w, s, e)
			}
		}
		for name, call := range map[string]func() (int, api.Errno){
			"Cmp":  func() (int, api.Errno) { return rat.Cmp(w, zero) },
			"Cmp2": func() (int, api.Errno) { return rat.Cmp(zero, w) },
			"Sign": func() (int, api.Errno) { return rat.Sign(w) },
		} {
			if n, e := call(); n != 0 || e != api.ErrForm {
				t.Errorf("%s of %v: %d, %d", name, w, n, e)
			}
		}
		if l, e := rat.Chain(w); len(l) != 0 || e != api.ErrForm {
			t.Errorf("Chain of %v: %q, %d", w, l, e)
		}
	}
}

func TestExamplesOfReckoning(t *testing.T) {
	got, e := rat.Add(frac("1/2"), frac("1/3"))
	check(t, "Add", got, e, frac("5/6"), api.OK)
	got, e = rat.Quo(frac("1/2"), frac("0"))
	check(t, "Quo", got, e, api.Rat{}, api.ErrZero)
	got, e = rat.Pow(frac("-2/3"), -3)
	check(t, "Pow", got, e, frac("-27/8"), api.OK)
	got, e = rat.Sum()
	check(t, "Sum of none", got, e, frac("0"), api.OK)
	got, e = rat.Prod()
	check(t, "Prod of none", got, e, frac("1"), api.OK)
	if n, e := rat.Cmp(frac("1/3"), frac("2/6")); n != 0 || e != api.ErrForm {
		t.Errorf("Cmp(1/3, 2/6) = %d, %d", n, e)
	}
	got, e = rat.Floor(frac("-1/2"))
	check(t, "Floor", got, e, frac("-1"), api.OK)
	for _, c := range []struct {
		a, want string
		places  int
	}{{"5/2", "2", 0}, {"7/2", "4", 0}, {"-5/2", "-2", 0}, {"1/8", "3/25", 2}, {"1250", "1200", -2}} {
		got, e = rat.Round(frac(c.a), c.places)
		check(t, "Round "+c.a, got, e, frac(c.want), api.OK)
	}
}

// P2.4 and P2.5, held against the library's rational numbers.
func TestReckoning(t *testing.T) {
	r := rand.New(rand.NewSource(24))
	for i := range 4000 {
		a, b := sample(r, sizeOf(i)), sample(r, sizeOf(i/8))
		x, y := value(a), value(b)
		got, e := rat.Add(a, b)
		want, why := told(new(big.Rat).Add(x, y))
		check(t, "Add", got, e, want, why)
		got, e = rat.Sub(a, b)
		want, why = told(new(big.Rat).Sub(x, y))
		check(t, "Sub", got, e, want, why)
		got, e = rat.Mul(a, b)
		want, why = told(new(big.Rat).Mul(x, y))
		check(t, "Mul", got, e, want, why)
		got, e = rat.Quo(a, b)
		if want, why = (api.Rat{}), api.ErrZero; y.Sign() != 0 {
			want, why = told(new(big.Rat).Quo(x, y))
		}
		check(t, "Quo", got, e, want, why)
		got, e = rat.Neg(a)
		want, why = told(new(big.Rat).Neg(x))
		check(t, "Neg", got, e, want, why)
		got, e = rat.Inv(a)
		if want, why = (api.Rat{}), api.ErrZero; x.Sign() != 0 {
			want, why = told(new(big.Rat).Inv(x))
		}
		check(t, "Inv", got, e, want, why)
		if n, e := rat.Cmp(a, b); n != x.Cmp(y) || e != api.OK {
			t.Errorf("Cmp(%v, %v) = %d, %d", a, b, n, e)
		}
		if n, e := rat.Sign(a); n != x.Sign() || e != api.OK {
			t.Errorf("Sign(%v) = %d, %d", a, n, e)
		}
		if t.Failed() {
			t.Fatalf("of %v and %v", a, b)
		}
	}
}

// Only the result counts: what is far too large on the way may come to a small number.
func TestOnTheWayNothingCounts(t *testing.T) {
	great, small := frac(nines(600)), frac("1/"+nines(600))
	got, e := rat.Mul(great, small)
	check(t, "Mul", got, e, frac("1"), api.OK)
	got, e = rat.Quo(great, great)
	check(t, "Quo", got, e, frac("1"), api.OK)
	got, e = rat.Mul(great, great)
	check(t, "Mul", got, e, api.Rat{}, api.ErrLarge)
	got, e = rat.Add(great, frac("1"))
	check(t, "Add", got, e, api.Rat{}, api.ErrLarge)
	got, e = rat.Add(great, frac("-1"))
	check(t, "Add", got, e, frac(nines(599)+"8"), api.OK)
	got, e = rat.Add(great, small)
	check(t, "Add", got, e, api.Rat{}, api.ErrLarge)
	got, e = rat.Sub(frac(ten(599)+"/"+nines(600)), frac("1/"+nines(600)))
	check(t, "Sub", got, e, frac(repeat("1", 599)+"/"+repeat("1", 600)), api.OK)
	got, e = rat.Sum(great, great, frac("1/7"), frac("-"+nines(600)), frac("-1/7"))
	check(t, "Sum", got, e, great, api.OK)
	got, e = rat.Prod(great, great, small, frac("2/7"), small)
	check(t, "Prod", got, e, frac("2/7"), api.OK)
	got, e = rat.Prod(great, great, frac("0"))
	check(t, "Prod", got, e, frac("0"), api.OK)
	got, e = rat.Prod(small, small)
	check(t, "Prod", got, e, api.Rat{}, api.ErrLarge)
	if n, e := rat.Cmp(frac(nines(600)+"/"+ten(599)), frac(nines(599)+"8/"+ten(599))); n != 0 || e != api.ErrForm {
		t.Errorf("Cmp: %d, %d", n, e)
	}
	if n, e := rat.Cmp(frac(nines(600)+"/"+ten(599)), frac(nines(599)+"7/"+ten(599))); n != 1 || e != api.OK {
		t.Errorf("Cmp: %d, %d", n, e)
	}
}

// P2.4.
func TestPow(t *testing.T) {
	for _, n := range []int{-api.MaxPow - 1, api.MaxPow + 1, math.MinInt, math.MaxInt} {
		for _, a := range []string{"0", "1", "-1/2"} {
			got, e := rat.Pow(frac(a), n)
			check(t, "Pow", got, e, api.Rat{}, api.ErrArg)
		}
	}
	for _, n := range []int{-1, -2, -api.MaxPow} {
		got, e := rat.Pow(frac("0"), n)
		check(t, "Pow of 0", got, e, api.Rat{}, api.ErrZero)
	}
	for _, c := range []struct {
		a    string
		n    int
		want string
	}{{"0", 0, "1"}, {"0", 1, "0"}, {"0", api.MaxPow, "0"}, {"5/7", 0, "1"}, {"-5/7", 0, "1"}, {"-1", api.MaxPow, "1"}, {"-1", api.MaxPow - 1, "-1"}, {"-1", -api.MaxPow + 1, "-1"}, {"-1", -api.MaxPow, "1"}, {"1/10", -599, ten(599)}, {"10", -599, "1/" + ten(599)}, {"-1/10", 599, "-1/" + ten(599)}} {
		got, e := rat.Pow(frac(c.a), c.n)
		check(t, "Pow "+c.a, got, e, frac(c.want), api.OK)
	}
	for _, c := range []struct {
		a string
		n int
	}{{"10", 600}, {"1/10", 600}, {"10", -600}, {"2", api.MaxPow}, {"1/2", -api.MaxPow}, {"1/" + nines(600), 2}, {nines(600), api.MaxPow}} {
		got, e := rat.Pow(frac(c.a), c.n)
		check(t, "Pow "+c.a, got, e, api.Rat{}, api.ErrLarge)
	}
}

func TestSumAndProdOfLists(t *testing.T) {
	r := rand.New(rand.NewSource(25))
	for i := range 600 {
		l := make([]api.Rat, r.Intn(12))
		sum, product := new(big.Rat), new(big.Rat).SetInt64(1)
		for j := range l {
			l[j] = sample(r, sizeOf(i))
			sum.Add(sum, value(l[j]))
			product.Mul(product, value(l[j]))
		}
		got, e := rat.Sum(l...)
		want, why := told(sum)
		check(t, "Sum", got, e, want, why)
		got, e = rat.Prod(l...)
		want, why = told(product)
		check(t, "Prod", got, e, want, why)
	}
}

// Sums and products of many great numbers end, and soon.
func TestLongLists(t *testing.T) {
	const many = 5000
	greats, back, bits := make([]api.Rat, many), make([]api.Rat, 0, many), make([]api.Rat, many)
	for i := range many {
		greats[i] = frac(nines(600))
		bits[i], _ = rat.New("1", value(rat.Of(int64(i+1))).Num().String())
	}
	got, e := rat.Prod(greats...)
	check(t, "Prod", got, e, api.Rat{}, api.ErrLarge)
	for i := 1; i < many; i++ {
		r, _ := rat.Quo(rat.Of(int64(i)), rat.Of(int64(i+1)))
		back = append(back, r)
	}
	got, e = rat.Prod(back...)
	check(t, "Prod", got, e, frac("1/5000"), api.OK)
	got, e = rat.Sum(bits[:1000]...)
	want := new(big.Rat)
	for _, b := range bits[:1000] {
		want.Add(want, value(b))
	}
	sum, why := told(want)
	check(t, "Sum", got, e, sum, why)
	got, e = rat.Sum(bits...)
	check(t, "Sum", got, e, api.Rat{}, api.ErrLarge)
}

// Products just within the bound by which the digits alone tell that one is too large.
func TestProdAtTheBound(t *testing.T) {
	for _, l := range [][]string{{ten(300), ten(299)}, {ten(300), ten(300)}, {"1/" + ten(300), "1/" + ten(299)}, {"1/" + ten(300), "1/" + ten(300)}, {nines(300), nines(300)}, {"1/" + nines(300), "1/" + nines(300)}, {ten(599), "9"}, {ten(599), "10"}, {nines(600) + "/7", "7"}, {ten(599) + "/" + nines(599), ten(599) + "/" + nines(599)}} {
		all, want := make([]api.Rat, len(l)), new(big.Rat).SetInt64(1)
		for i, s := range l {
			all[i] = frac(s)
			if !rat.Right(all[i]) {
				all[i], _ = rat.New(all[i].Num, all[i].Den)
			}
			want.Mul(want, value(all[i]))
		}
		product, why := told(want)
		got, e := rat.Prod(all...)
		check(t, "Prod", got, e, product, why)
	}
}

// Numbers whose digits seem to make the product great, or small, though it is 1.
func TestProdOfManyDigits(t *testing.T) {
	var up, down []api.Rat
	for range 700 {
		up = append(up, frac("100/99"), frac("99/50"), frac("1/2"))
		down = append(down, frac("99/100"), frac("50/99"), frac("2"))
	}
	for _, l := range [][]api.Rat{up, down} {
		got, e := rat.Prod(l...)
		check(t, "Prod", got, e, frac("1"), api.OK)
	}
}

// P2.5 and P2.11.
func TestFloor(t *testing.T) {
	r := rand.New(rand.NewSource(26))
	for i := range 2000 {
		a := sample(r, sizeOf(i))
		got, e := rat.Floor(a)
		if e != api.OK || got.Den != "1" || !rat.Right(got) {
			t.Fatalf("Floor(%v) = %v, %d", a, got, e)
		}
		floor, x := value(got), value(a)
		if floor.Cmp(x) > 0 || new(big.Rat).Add(floor, new(big.Rat).SetInt64(1)).Cmp(x) <= 0 {
			t.Fatalf("Floor(%v) = %v", a, got)
		}
	}
	for s, want := range map[string]string{"0": "0", "1/2": "0", "-1/2": "-1", "7": "7", "-7": "-7", "-7/2": "-4", "7/2": "3", "-" + nines(600): "-" + nines(600), "-" + nines(600) + "/2": "-5" + nought(599)} {
		got, e := rat.Floor(frac(s))
		check(t, "Floor "+s, got, e, frac(want), api.OK)
	}
}

func power(n int) *big.Rat {
	p := new(big.Rat).SetInt(new(big.Int).Exp(big.NewInt(10), big.NewInt(int64(max(n, -n))), nil))
	if n < 0 {
		return p.Inv(p)
	}
	return p
}

// rounded: by the words of P2.5, with nothing of the program: the two multiples next to it, of which the nearer one is taken, or the even one.
func rounded(a api.Rat, places int) *big.Rat {
	x := new(big.Rat).Mul(value(a), power(places))
	low := new(big.Int).Div(x.Num(), x.Denom())
	high := new(big.Int).Add(low, big.NewInt(1))
	toLow := new(big.Rat).Sub(x, new(big.Rat).SetInt(low))
	toHigh := new(big.Rat).Sub(new(big.Rat).SetInt(high), x)
	n := low
	if c := toLow.Cmp(toHigh); c > 0 || c == 0 && low.Bit(0) == 1 {
		n = high
	}
	return new(big.Rat).Mul(new(big.Rat).SetInt(n), power(-places))
}

// P2.5.
func TestRound(t *testing.T) {
	r := rand.New(rand.NewSource(27))
	for i := range 3000 {
		a, places := sample(r, sizeOf(i)), r.Intn(13)-6
		if i%3 == 0 { // a number that lies in the middle
			half, _ := rat.New(digits(r, 6), "2")
			a, _ = rat.Prod(half, frac([]string{"1", "-1", "10", "-1/10", "1/1000"}[i%5]))
		}
		if i%7 == 0 {
			places = r.Intn(2*api.MaxDigits+1) - api.MaxDigits
		}
		got, e := rat.Round(a, places)
		want, why := told(rounded(a, places))
		check(t, "Round", got, e, want, why)
		if t.Failed() {
			t.Fatalf("of %v, %d", a, places)
		}
	}
}

func TestRoundAtTheEdges(t *testing.T) {
	for _, places := range []int{-api.MaxDigits - 1, api.MaxDigits + 1, math.MinInt, math.MaxInt} {
		got, e := rat.Round(frac("0"), places)
		check(t, "Round", got, e, api.Rat{}, api.ErrArg)
	}
	for _, c := range []struct {
		a      string
		places int
		want   string
		why    api.Errno
	}{
		{"0", 600, "0", api.OK}, {"0", -600, "0", api.OK}, {nines(600), 600, nines(600), api.OK}, {nines(600), -600, "", api.ErrLarge}, {"5" + nought(599), -600, "0", api.OK}, {"5" + nought(598) + "1", -600, "", api.ErrLarge}, {nines(600), -1, "", api.ErrLarge},
		{"1/3", 600, "", api.ErrLarge}, {"1/3", 599, repeat("3", 599) + "/" + ten(599), api.OK}, {"1/2", 600, "1/2", api.OK}, {"-1/2", 0, "0", api.OK}, {"3/2", 0, "2", api.OK}, {"-3/2", 0, "-2", api.OK}, {"-1250", -2, "-1200", api.OK}, {"1350", -2, "1400", api.OK}, {"1/" + ten(599), 598, "0", api.OK},
	} {
		want := api.Rat{}
		if c.why == api.OK {
			want = frac(c.want)
		}
		got, e := rat.Round(frac(c.a), c.places)
		check(t, "Round "+c.a, got, e, want, c.why)
	}
}

// P2.7 and P2.8.
func TestFieldAndOrder(t *testing.T) {
	r := rand.New(rand.NewSource(28))
	do := func(call two, a, b api.Rat) api.Rat {
		v, e := call(a, b)
		if e != api.OK {
			t.Fatalf("%v, %v: %d", a, b, e)
		}
		return v
	}
	cmp := func(a, b api.Rat) int {
		n, _ := rat.Cmp(a, b)
		return n
	}
	for i := range 400 {
		size := 1 + i%90
		a, b, c := sample(r, size), sample(r, size), sample(r, size)
		for _, call := range []two{rat.Add, rat.Mul} {
			if do(call, a, b) != do(call, b, a) || do(call, do(call, a, b), c) != do(call, a, do(call, b, c)) {
				t.Fatalf("%v, %v, %v: not commutative, or not associative", a, b, c)
			}
		}
		if do(rat.Mul, a, do(rat.Add, b, c)) != do(rat.Add, do(rat.Mul, a, b), do(rat.Mul, a, c)) {
			t.Fatalf("%v, %v, %v: Mul does not go over Add", a, b, c)
		}
		minus, _ := rat.Neg(a)
		if do(rat.Add, a, minus) != rat.Of(0) {
			t.Fatalf("%v and what is opposite are not 0", a)
		}
		if turned, e := rat.Inv(a); e == api.OK && do(rat.Mul, a, turned) != rat.Of(1) {
			t.Fatalf("%v times Inv is not 1", a)
		}
		if cmp(a, b) != -cmp(b, a) || cmp(a, a) != 0 || (cmp(a, b) == 0) != (a == b) {
			t.Fatalf("%v, %v: no order", a, b)
		}
		if cmp(a, b) <= 0 && cmp(b, c) <= 0 && cmp(a, c) > 0 {
			t.Fatalf("%v, %v, %v: the order does not go on", a, b, c)
		}
		if cmp(do(rat.Add, a, c), do(rat.Add, b, c)) != cmp(a, b) {
			t.Fatalf("%v, %v, %v: the order does not go with Add", a, b, c)
		}
		if cmp(c, rat.Of(0)) > 0 && cmp(do(rat.Mul, a, c), do(rat.Mul, b, c)) != cmp(a, b) {
			t.Fatalf("%v, %v, %v: the order does not go with Mul", a, b, c)
		}
	}
}

// P2.9.
func TestPowOfSums(t *testing.T) {
	r := rand.New(rand.NewSource(29))
	for range 500 {
		a, m, n := sample(r, 10), r.Intn(41)-20, r.Intn(41)-20
		if a == rat.Of(0) {
			continue
		}
		x, _ := rat.Pow(a, m)
		y, _ := rat.Pow(a, n)
		want, _ := rat.Mul(x, y)
		got, e := rat.Pow(a, m+n)
		check(t, "Pow of a sum", got, e, want, api.OK)
	}
}
