package rat_test

import (
	"math/big"
	"math/rand"
	"testing"
	"time"

	"cubit/api"
	"cubit/rat"
)

// powersOf: of texts and exponents by turns.
func powersOf(t *testing.T, l ...any) []rat.Power {
	t.Helper()
	var all []rat.Power
	for i := 0; i < len(l); i += 2 {
		all = append(all, rat.Power{Of: fracOf(t, l[i].(string)), Exp: l[i+1].(int)})
	}
	return all
}

func checkProduct(t *testing.T, name string, l []rat.Power, want api.Rat, why api.Errno) {
	t.Helper()
	f, e := rat.Product(l)
	if e != api.OK {
		check(t, name, api.Rat{}, e, want, why)
		return
	}
	r, e := f.Tell()
	check(t, name, r, e, want, why)
}

// bigPower: n is small.
func bigPower(v *big.Rat, n int) *big.Rat {
	p := big.NewRat(1, 1)
	for range max(n, -n) {
		p.Mul(p, v)
	}
	if n < 0 {
		p.Inv(p)
	}
	return p
}

func TestProduct(t *testing.T) {
	checkProduct(t, "none", nil, frac("1"), api.OK)
	checkProduct(t, "one", powersOf(t, "2/3", 1), frac("2/3"), api.OK)
	checkProduct(t, "turned", powersOf(t, "2/3", -3), frac("27/8"), api.OK)
	checkProduct(t, "to the 0", powersOf(t, nines(600), 0), frac("1"), api.OK)
	checkProduct(t, "shared", powersOf(t, "12/35", 2, "70/9", 3, "6", -5), frac("140/19683"), api.OK)
	checkProduct(t, "599 noughts", powersOf(t, "10", 599), frac(ten(599)), api.OK)
	checkProduct(t, "600 noughts", powersOf(t, "10", 600), api.Rat{}, api.ErrLarge)
	checkProduct(t, "1 by 600 noughts", powersOf(t, "1/10", 600), api.Rat{}, api.ErrLarge)
	checkProduct(t, "600 nines", powersOf(t, nines(300), 1, ten(300), 1, nines(300)+"/"+ten(300), 0), frac(nines(300)+nought(300)), api.OK)
	checkProduct(t, "away and back", powersOf(t, nines(600), 99, "1/"+nines(600), 98), frac(nines(600)), api.OK)
	checkProduct(t, "one too many", powersOf(t, nines(600), 99, "1/"+nines(600), 98, "2", 1), api.Rat{}, api.ErrLarge)
	checkProduct(t, "powers of two", powersOf(t, "2", 4096, "4", 4096, "8", -4096, "2", 5), frac("32"), api.OK)
	checkProduct(t, "two to the 1993", powersOf(t, "2", 1993), api.Rat{Num: new(big.Int).Lsh(big.NewInt(1), 1993).String(), Den: "1"}, api.OK)
	checkProduct(t, "two to the 1994", powersOf(t, "2", 1994), api.Rat{}, api.ErrLarge)
	checkProduct(t, "one by two to the 1994", powersOf(t, "2", -1994), api.Rat{}, api.ErrLarge)
	checkProduct(t, "far away", powersOf(t, "2", 4096, "3", -4096), api.Rat{}, api.ErrLarge)
}

// Against numbers that are worked out as they stand.
func TestProductOfMany(t *testing.T) {
	r := rand.New(rand.NewSource(73))
	large := 0
	for i := range 4000 {
		want := big.NewRat(1, 1)
		var l []rat.Power
		for range r.Intn(8) {
			v := sample(r, []int{1, 1, 2, 3, 8, 100}[i%6])
			if v.Num == "0" || v.Num[0] == '-' {
				continue
			}
			f, _ := rat.Read(v)
			exp := r.Intn(21) - 10
			l = append(l, rat.Power{Of: f, Exp: exp})
			want.Mul(want, bigPower(value(v), exp))
		}
		number, why := told(want)
		if why == api.ErrLarge {
			large++
		}
		checkProduct(t, "product", l, number, why)
	}
	if large < 100 || large > 2000 {
		t.Error("too large:", large)
	}
}

// What cancels out is never worked out, however great it is; and what is too large is seen soon.
func TestProductOfGreat(t *testing.T) {
	r := rand.New(rand.NewSource(74))
	began := time.Now()
	var there, back, apart []rat.Power
	for i := range 32 {
		v, e := rat.New("1"+random(r, 599), "3"+random(r, 599))
		if e != api.OK {
			t.Fatal(e)
		}
		f, _ := rat.Read(v)
		there = append(there, rat.Power{Of: f, Exp: 99})
		back = append(back, rat.Power{Of: f.Mul(f), Exp: -49}, rat.Power{Of: f, Exp: -1})
		apart = append(apart, rat.Power{Of: f, Exp: 99 - 198*(i%2)})
	}
	checkProduct(t, "there and back", append(there, back...), frac("1"), api.OK)
	checkProduct(t, "apart", apart, api.Rat{}, api.ErrLarge)
	var tens []rat.Power
	for i := range 64 {
		tens = append(tens, powersOf(t, ten(536+i), 99-198*(i%2), "10", 1)...)
	}
	checkProduct(t, "tens", append(tens, powersOf(t, "10", 99*32-64)...), frac("1"), api.OK)
	if took := time.Since(began); took > 20*time.Second {
		t.Error("too slow:", took)
	}
}

func random(r *rand.Rand, n int) string {
	b := make([]byte, n)
	for i := range b {
		b[i] = byte('0' + r.Intn(10))
	}
	return string(b)
}
