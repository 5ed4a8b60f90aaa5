package nat_test

import (
	"math/big"
	"math/rand"
	"strings"
	"testing"

	"cubit/nat"
)

func same(t *testing.T, name string, got nat.Big, want *big.Int) {
	t.Helper()
	if got.Text() != want.String() {
		t.Fatalf("%s = %s, not %s", name, got.Text(), want)
	}
}

// edges: limbs of noughts and nines, at which guesses of a long division go wrong, and numbers beyond MaxDigits.
func edges(r *rand.Rand, limbs int) string {
	var b strings.Builder
	b.WriteString([]string{"1", "500000000", "499999999", "999999999", "2", "123"}[r.Intn(6)])
	for range r.Intn(limbs) {
		b.WriteString([]string{"000000000", "999999999", "000000001", "999999998", "500000000", "499999999", "123456789"}[r.Intn(7)])
	}
	return b.String()
}

func TestBigDivMod(t *testing.T) {
	r := rand.New(rand.NewSource(1))
	for range 50000 {
		a, b := edges(r, 9), edges(r, 6)
		often, left := nat.BigText(a).DivMod(nat.BigText(b))
		q, m := new(big.Int).QuoRem(number(a), number(b), new(big.Int))
		same(t, a+" / "+b, often, q)
		same(t, a+" mod "+b, left, m)
	}
}

func TestBigDivModOfProducts(t *testing.T) {
	r := rand.New(rand.NewSource(2))
	one := nat.BigOf(1)
	for range 20000 {
		x, y := nat.BigText(edges(r, 9)), nat.BigText(edges(r, 9))
		product := x.Mul(y)
		often, left := product.DivMod(x)
		same(t, "often", often, number(y.Text()))
		same(t, "left", left, big.NewInt(0))
		often, left = product.Sub(one).DivMod(x)
		same(t, "often", often, new(big.Int).Sub(number(y.Text()), big.NewInt(1)))
		same(t, "left", left, new(big.Int).Sub(number(x.Text()), big.NewInt(1)))
	}
}

func TestBigGcd(t *testing.T) {
	r := rand.New(rand.NewSource(3))
	for i := range 20000 {
		a, b := edges(r, 12), edges(r, 12)
		if i%2 == 0 {
			a, b = sample(r, 150), sample(r, 150)
		}
		got := nat.BigText(a).Gcd(nat.BigText(b))
		same(t, "gcd of "+a+" and "+b, got, new(big.Int).GCD(nil, nil, number(a), number(b)))
	}
}

// Of two neighbours of Fibonacci Euclid has the most steps, each with the quotient 1.
func TestBigGcdOfFibonacci(t *testing.T) {
	a, b := nat.BigOf(1), nat.BigOf(1)
	for range 4000 {
		a, b = b, a.Add(b)
		if !a.Gcd(b).IsOne() {
			t.Fatalf("gcd of %s and %s", a.Text(), b.Text())
		}
	}
	factor := nat.BigText(nines(100))
	if got := a.Mul(factor).Gcd(b.Mul(factor)); got.Cmp(factor) != 0 {
		t.Fatalf("gcd is %s", got.Text())
	}
}

func TestBigBeyondMaxDigits(t *testing.T) {
	r := rand.New(rand.NewSource(4))
	for range 200 {
		a, b := sample(r, 3000), sample(r, 3000)
		x, y := nat.BigText(a), nat.BigText(b)
		same(t, "sum", x.Add(y), new(big.Int).Add(number(a), number(b)))
		same(t, "product", x.Mul(y), new(big.Int).Mul(number(a), number(b)))
		same(t, "gcd", x.Gcd(y), new(big.Int).GCD(nil, nil, number(a), number(b)))
		if x.Cmp(y) >= 0 {
			same(t, "difference", x.Sub(y), new(big.Int).Sub(number(a), number(b)))
		}
	}
}

func TestBigTextShiftLen(t *testing.T) {
	r := rand.New(rand.NewSource(5))
	for range 2000 {
		a, places := sample(r, 60), r.Intn(60)
		shifted := nat.BigText(a).Shift(places)
		same(t, a+" shifted", shifted, new(big.Int).Mul(number(a), number(ten(places))))
		if shifted.Len() != len(shifted.Text()) {
			t.Fatalf("Len of %s is %d", shifted.Text(), shifted.Len())
		}
		if odd := number(a).Bit(0) == 1; nat.BigText(a).IsOdd() != odd {
			t.Fatalf("IsOdd of %s", a)
		}
	}
	for text, want := range map[string]string{"": "0", "0": "0", "000": "0", "0000000000000000000012": "12", "1000000000": "1000000000"} {
		if got := nat.BigText(text).Text(); got != want {
			t.Errorf("%q is %s", text, got)
		}
	}
	if !nat.BigText("000").IsZero() || !nat.BigOf(0).IsZero() || !nat.BigText("0001").IsOne() || nat.BigOf(11).IsOne() {
		t.Error("IsZero, IsOne")
	}
}

// What one call has answered stays as it is, whatever is reckoned with it.
func TestBigStays(t *testing.T) {
	a, b := nat.BigText(nines(100)), nat.BigText(ten(40))
	x, y := a.Text(), b.Text()
	a.Add(b)
	a.Sub(b)
	a.Mul(b)
	a.DivMod(b)
	b.DivMod(a)
	a.Gcd(b)
	a.Pow(3)
	a.Root(1)
	a.Root(2)
	a.Shift(7)
	if a.Text() != x || b.Text() != y {
		t.Error("a number was changed")
	}
}
