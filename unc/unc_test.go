package unc_test

import (
	"math"
	"math/big"
	"math/rand"
	"slices"
	"strings"
	"testing"

	"cubit/api"
	"cubit/rat"
	"cubit/unc"
)

type two func(a, b api.Meas) (api.Meas, api.Errno)

// P4.1.
func TestRight(t *testing.T) {
	for _, m := range []api.Meas{meas("0"), meas("-1/2"), meas("1", "x", "-1"), meas("0", "!", "1", "A", "1/2", "a", "1", "ab", "1", "b", "1", "~", "1"), meas("1", strings.Repeat("x", api.MaxName), "1"), meas(nines(600), "x", "1/"+nines(600)), many("s", api.MaxSources)} {
		if !unc.Right(m) {
			t.Errorf("Right(%v) is false", m)
		}
	}
	for _, m := range wrongs() {
		if unc.Right(m) {
			t.Errorf("Right(%v) is true", m)
		}
	}
}

// P4.1.
func TestExactAndNew(t *testing.T) {
	m, e := unc.Exact(num("1/3"))
	checkMeas(t, "Exact", m, e, meas("1/3"), api.OK)
	long := strings.Repeat("~", api.MaxName)
	for _, c := range []struct {
		v, by, name string
		want        api.Meas
		why         api.Errno
	}{
		{"2", "1/10", "x", meas("2", "x", "1/10"), api.OK}, {"2", "-1/10", "x", meas("2", "x", "-1/10"), api.OK}, {"2", "0", "x", meas("2"), api.OK}, {"0", "1", "!", meas("0", "!", "1"), api.OK}, {"0", "1", long, meas("0", long, "1"), api.OK},
		{"2", "1", "", meas(""), api.ErrForm}, {"2", "0", "", meas(""), api.ErrForm}, {"2", "1", "a b", meas(""), api.ErrForm}, {"2", "1", "\x7f", meas(""), api.ErrForm}, {"2", "1", long + "~", meas(""), api.ErrForm},
		{"2/4", "1", "x", meas(""), api.ErrForm}, {"2", "2/4", "x", meas(""), api.ErrForm}, {"2", "0/2", "x", meas(""), api.ErrForm}, {"2", "-0", "x", meas(""), api.ErrForm}, {"", "1", "x", meas(""), api.ErrForm}, {ten(600), "1", "x", meas(""), api.ErrForm},
	} {
		want := c.want
		if c.why != api.OK {
			want = api.Meas{}
		}
		m, e := unc.New(num(c.v), num(c.by), c.name)
		checkMeas(t, "New "+c.v+" "+c.by+" "+c.name, m, e, want, c.why)
	}
	for _, v := range []string{"", "2/4", "-0", ten(600)} {
		m, e := unc.Exact(num(v))
		checkMeas(t, "Exact "+v, m, e, api.Meas{}, api.ErrForm)
	}
}

// In every call: ErrForm ahead of all else, and nothing beside it.
func TestWrongValuesGoAhead(t *testing.T) {
	zero, bad := meas("0"), num("2/4")
	for _, w := range wrongs() {
		for name, call := range map[string]two{"Add": unc.Add, "Sub": unc.Sub, "Mul": unc.Mul, "Quo": unc.Quo,
			"Neg":   func(a, b api.Meas) (api.Meas, api.Errno) { return unc.Neg(w) },
			"Scale": func(a, b api.Meas) (api.Meas, api.Errno) { return unc.Scale(w, num("0")) },
			"Pow":   func(a, b api.Meas) (api.Meas, api.Errno) { return unc.Pow(w, api.MaxPow+1) },
		} {
			m, e := call(w, zero)
			checkMeas(t, name, m, e, api.Meas{}, api.ErrForm)
			m, e = call(zero, w)
			checkMeas(t, name, m, e, api.Meas{}, api.ErrForm)
		}
		for name, call := range map[string]func() (api.Rat, api.Errno){
			"By":     func() (api.Rat, api.Errno) { return unc.By(w, "x") },
			"Cov":    func() (api.Rat, api.Errno) { return unc.Cov(w, zero) },
			"Cov2":   func() (api.Rat, api.Errno) { return unc.Cov(zero, w) },
			"Var":    func() (api.Rat, api.Errno) { return unc.Var(w) },
			"Spread": func() (api.Rat, api.Errno) { return unc.Spread(w, 0) },
		} {
			r, e := call()
			checkRat(t, name, r, e, api.Rat{}, api.ErrForm)
		}
		if yes, e := unc.Agree(w, zero, -1); yes || e != api.ErrForm {
			t.Errorf("Agree(%v) = %v, %d", w, yes, e)
		}
		if yes, e := unc.Agree(zero, w, -1); yes || e != api.ErrForm {
			t.Errorf("Agree(%v) = %v, %d", w, yes, e)
		}
		if s, e := unc.Print(w, 0); s != "" || e != api.ErrForm {
			t.Errorf("Print(%v) = %q, %d", w, s, e)
		}
	}
	m, e := unc.Scale(meas("1"), bad)
	checkMeas(t, "Scale", m, e, api.Meas{}, api.ErrForm)
}

// P4.2: the chapter's examples, and edges.
func TestReckoning(t *testing.T) {
	x, y := meas("2", "x", "1/10"), meas("3", "y", "1/5")
	noughts := meas("0", "x", "1/2")
	for _, c := range []struct {
		name string
		do   func() (api.Meas, api.Errno)
		want api.Meas
		why  api.Errno
	}{
		{"x + y", func() (api.Meas, api.Errno) { return unc.Add(x, y) }, meas("5", "x", "1/10", "y", "1/5"), api.OK},
		{"y + x", func() (api.Meas, api.Errno) { return unc.Add(y, x) }, meas("5", "x", "1/10", "y", "1/5"), api.OK},
		{"x - y", func() (api.Meas, api.Errno) { return unc.Sub(x, y) }, meas("-1", "x", "1/10", "y", "-1/5"), api.OK},
		{"x * y", func() (api.Meas, api.Errno) { return unc.Mul(x, y) }, meas("6", "x", "3/10", "y", "2/5"), api.OK},
		{"x / y", func() (api.Meas, api.Errno) { return unc.Quo(x, y) }, meas("2/3", "x", "1/30", "y", "-2/45"), api.OK},
		{"x - x", func() (api.Meas, api.Errno) { return unc.Sub(x, x) }, meas("0"), api.OK},
		{"x / x", func() (api.Meas, api.Errno) { return unc.Quo(x, x) }, meas("1"), api.OK},
		{"x / 0", func() (api.Meas, api.Errno) { return unc.Quo(x, noughts) }, api.Meas{}, api.ErrZero},
		{"0 / x", func() (api.Meas, api.Errno) { return unc.Quo(noughts, x) }, meas("0", "x", "1/4"), api.OK},
		{"0 * 0", func() (api.Meas, api.Errno) { return unc.Mul(noughts, noughts) }, meas("0"), api.OK},
		{"x * 0", func() (api.Meas, api.Errno) { return unc.Mul(x, noughts) }, meas("0", "x", "1"), api.OK},
		{"x * exact 0", func() (api.Meas, api.Errno) { return unc.Mul(x, meas("0")) }, meas("0"), api.OK},
		{"-x", func() (api.Meas, api.Errno) { return unc.Neg(x) }, meas("-2", "x", "-1/10"), api.OK},
		{"-0", func() (api.Meas, api.Errno) { return unc.Neg(meas("0")) }, meas("0"), api.OK},
		{"x by 5", func() (api.Meas, api.Errno) { return unc.Scale(x, num("-5")) }, meas("-10", "x", "-1/2"), api.OK},
		{"x by 0", func() (api.Meas, api.Errno) { return unc.Scale(x, num("0")) }, meas("0"), api.OK},
		{"x^3", func() (api.Meas, api.Errno) { return unc.Pow(x, 3) }, meas("8", "x", "6/5"), api.OK},
		{"x^1", func() (api.Meas, api.Errno) { return unc.Pow(x, 1) }, x, api.OK},
		{"x^0", func() (api.Meas, api.Errno) { return unc.Pow(x, 0) }, meas("1"), api.OK},
		{"x^-1", func() (api.Meas, api.Errno) { return unc.Pow(x, -1) }, meas("1/2", "x", "-1/40"), api.OK},
		{"x^-2", func() (api.Meas, api.Errno) { return unc.Pow(x, -2) }, meas("1/4", "x", "-1/40"), api.OK},
		{"0^0", func() (api.Meas, api.Errno) { return unc.Pow(noughts, 0) }, meas("1"), api.OK},
		{"0^1", func() (api.Meas, api.Errno) { return unc.Pow(noughts, 1) }, noughts, api.OK},
		{"0^2", func() (api.Meas, api.Errno) { return unc.Pow(noughts, 2) }, meas("0"), api.OK},
		{"0^4096", func() (api.Meas, api.Errno) { return unc.Pow(noughts, api.MaxPow) }, meas("0"), api.OK},
		{"0^-1", func() (api.Meas, api.Errno) { return unc.Pow(noughts, -1) }, api.Meas{}, api.ErrZero},
		{"0^-4097", func() (api.Meas, api.Errno) { return unc.Pow(noughts, -api.MaxPow-1) }, api.Meas{}, api.ErrArg},
		{"x^4097", func() (api.Meas, api.Errno) { return unc.Pow(x, api.MaxPow+1) }, api.Meas{}, api.ErrArg},
		{"x^least", func() (api.Meas, api.Errno) { return unc.Pow(x, math.MinInt) }, api.Meas{}, api.ErrArg},
		{"x^most", func() (api.Meas, api.Errno) { return unc.Pow(x, math.MaxInt) }, api.Meas{}, api.ErrArg},
		{"1^4096", func() (api.Meas, api.Errno) { return unc.Pow(meas("1", "x", "1/4096"), api.MaxPow) }, meas("1", "x", "1"), api.OK},
		{"(-1)^-4096", func() (api.Meas, api.Errno) { return unc.Pow(meas("-1", "x", "1"), -api.MaxPow) }, meas("1", "x", "4096"), api.OK},
		{"2^4096", func() (api.Meas, api.Errno) { return unc.Pow(x, api.MaxPow) }, api.Meas{}, api.ErrLarge},
	} {
		m, e := c.do()
		checkMeas(t, c.name, m, e, c.want, c.why)
	}
}

// P4.2: against the library's great numbers.
func TestReckoningAgainstTheLibrary(t *testing.T) {
	r := rand.New(rand.NewSource(51))
	sizes := []int{1, 1, 2, 5, 150, 300, 600}
	for i := range 3000 {
		a, b := sample(r, 6, sizes[i%7]), sample(r, 6, sizes[i/7%7])
		x, y := modelOf(a), modelOf(b)
		check := func(name string, m api.Meas, e api.Errno, l model) {
			t.Helper()
			want, why := l.told()
			checkMeas(t, name, m, e, want, why)
			if e == api.OK && !unc.Right(m) {
				t.Errorf("%s is not right: %v", name, m)
			}
		}
		m, e := unc.Add(a, b)
		check("Add", m, e, both(x, y, add(x.at, y.at), add))
		m, e = unc.Sub(a, b)
		check("Sub", m, e, both(x, y, sub(x.at, y.at), sub))
		m, e = unc.Mul(a, b)
		check("Mul", m, e, both(x, y, mul(x.at, y.at), func(p, q *big.Rat) *big.Rat { return add(mul(x.at, q), mul(y.at, p)) }))
		if y.at.Sign() != 0 {
			q := quo(x.at, y.at)
			m, e = unc.Quo(a, b)
			check("Quo", m, e, both(x, y, q, func(p, s *big.Rat) *big.Rat { return quo(sub(p, mul(s, q)), y.at) }))
		}
		m, e = unc.Neg(a)
		check("Neg", m, e, both(x, x, new(big.Rat).Neg(x.at), func(p, _ *big.Rat) *big.Rat { return new(big.Rat).Neg(p) }))
		m, e = unc.Scale(a, b.Value)
		check("Scale", m, e, both(x, x, mul(x.at, y.at), func(p, _ *big.Rat) *big.Rat { return mul(p, y.at) }))
		if n := r.Intn(13) - 6; n >= 1 || x.at.Sign() != 0 {
			factor := new(big.Rat)
			if n != 0 {
				factor = mul(big.NewRat(int64(n), 1), power(x.at, n-1))
			}
			m, e = unc.Pow(a, n)
			check("Pow", m, e, both(x, x, power(x.at, n), func(p, _ *big.Rat) *big.Rat { return mul(p, factor) }))
		}
	}
}

// Only the result counts, and too many digits go ahead of too many sources.
func TestLargeAndTooManySources(t *testing.T) {
	a, b := many("a", api.MaxSources), many("b", api.MaxSources)
	huge := meas(nines(600))
	one := many("c", 1)
	half := many("a", 32)
	for _, c := range []struct {
		name string
		do   two
		a, b api.Meas
		why  api.Errno
	}{
		{"Add", unc.Add, a, b, api.ErrSource}, {"Sub", unc.Sub, a, b, api.ErrSource}, {"Mul", unc.Mul, a, b, api.ErrSource}, {"Quo", unc.Quo, a, b, api.ErrSource},
		{"Add one", unc.Add, a, one, api.ErrSource}, {"Add to half", unc.Add, half, many("b", 32), api.OK}, {"Add one more", unc.Add, half, many("b", 33), api.ErrSource},
		{"Add itself", unc.Add, a, a, api.OK}, {"Sub itself", unc.Sub, a, a, api.OK}, {"Sub half", unc.Sub, half, a, api.OK},
		{"Mul by 0", unc.Mul, a, meas("0", "z", "1"), api.OK}, // of z alone something is left
		{"Add large", unc.Add, huge, meas("1"), api.ErrLarge}, {"Add large and sources", unc.Add, api.Meas{Value: huge.Value, Sources: a.Sources}, b, api.ErrLarge},
		{"Mul large", unc.Mul, meas(ten(300), "x", "1"), meas(ten(299), "y", "1"), api.OK}, {"Mul larger", unc.Mul, meas(ten(300), "x", "1"), meas(ten(300), "y", "1"), api.ErrLarge},
		{"Mul by By", unc.Mul, meas("0", "x", ten(599)), meas(ten(1)), api.ErrLarge}, {"Quo by By", unc.Quo, meas("0", "x", ten(599)), meas("1/" + ten(1)), api.ErrLarge},
		{"on the way", unc.Mul, meas(ten(599), "x", ten(599)), meas("1/"+ten(599), "x", "-1/"+ten(599)), api.OK},
		{"on the way", unc.Quo, meas(ten(599), "x", ten(599)), meas(ten(599), "x", ten(599)), api.OK},
	} {
		m, e := c.do(c.a, c.b)
		if e != c.why || e != api.OK && !sameMeas(m, api.Meas{}) {
			t.Errorf("%s = %v, %d, not %d", c.name, m, e, c.why)
		}
	}
	m, e := unc.Mul(a, meas("0", "z", "1"))
	checkMeas(t, "Mul by 0", m, e, meas("0", "z", "1"), api.OK)
	m, e = unc.Add(api.Meas{Value: num("1"), Sources: []api.Source{{Name: "x", By: num(nines(600))}}}, api.Meas{Value: num("1"), Sources: append(many("y", 63).Sources, api.Source{Name: "z", By: num("1")})})
	checkMeas(t, "Add of 65", m, e, api.Meas{}, api.ErrSource)
	m, e = unc.Pow(meas(ten(299), "x", ten(302)), 2)
	checkMeas(t, "Pow of a great By", m, e, api.Meas{}, api.ErrLarge)
	m, e = unc.Pow(meas("1/"+ten(599), "x", "1/"+ten(599)), -1)
	checkMeas(t, "Pow on the way", m, e, meas(ten(599), "x", "-"+ten(599)), api.OK)
}

// P4.3.
func TestByCovVar(t *testing.T) {
	m := meas("1", "a", "1/2", "b", "-3", "c", "1")
	for name, want := range map[string]string{"a": "1/2", "b": "-3", "c": "1", "d": "0", "ab": "0", "A": "0", strings.Repeat("q", api.MaxName): "0"} {
		r, e := unc.By(m, name)
		checkRat(t, "By "+name, r, e, num(want), api.OK)
	}
	for _, name := range []string{"", " ", "a ", "\x7f", strings.Repeat("q", api.MaxName+1)} {
		r, e := unc.By(m, name)
		checkRat(t, "By "+name, r, e, api.Rat{}, api.ErrForm)
	}
	x, y := meas("2", "x", "1/10"), meas("3", "y", "1/5")
	sum, _ := unc.Add(x, y)
	r, e := unc.Var(sum)
	checkRat(t, "Var", r, e, num("1/20"), api.OK)
	r, e = unc.Cov(sum, x)
	checkRat(t, "Cov", r, e, num("1/100"), api.OK)
	r, e = unc.Cov(x, y)
	checkRat(t, "Cov", r, e, num("0"), api.OK)
	r, e = unc.Var(meas("7"))
	checkRat(t, "Var", r, e, num("0"), api.OK)
	r, e = unc.Var(many("s", api.MaxSources))
	checkRat(t, "Var", r, e, num("64"), api.OK)
	r, e = unc.Cov(many("a", api.MaxSources), many("b", api.MaxSources))
	checkRat(t, "Cov", r, e, num("0"), api.OK)
	r, e = unc.Var(meas("1", "x", ten(300)))
	checkRat(t, "Var", r, e, api.Rat{}, api.ErrLarge)
	r, e = unc.Var(meas("1", "x", ten(299)))
	checkRat(t, "Var", r, e, num(ten(598)), api.OK)
	// On the way it is too large, in the end it is not.
	r, e = unc.Cov(meas("1", "x", ten(400), "y", "1"), meas("1", "x", ten(400), "y", "-"+ten(599)))
	checkRat(t, "Cov", r, e, api.Rat{}, api.ErrLarge)
	r, e = unc.Cov(meas("1", "x", ten(400), "y", ten(500), "z", "1"), meas("1", "x", ten(400), "y", "-"+ten(300), "z", "2/3"))
	checkRat(t, "Cov", r, e, num("2/3"), api.OK)
}

// P4.4.
func TestAgree(t *testing.T) {
	a, b := meas("5", "a", "1/10"), meas("4", "b", "1/5")
	great, greater := many("a", api.MaxSources), many("b", api.MaxSources)
	greater.Value = num("24") // 23 apart, of Var 128
	for _, c := range []struct {
		a, b api.Meas
		k    int
		want bool
	}{
		{a, b, 4, false}, {a, b, 5, true}, {b, a, 4, false}, {b, a, 5, true}, {a, b, 0, false}, {a, b, math.MaxInt, true},
		{a, a, 0, true}, {meas("1"), meas("1"), 0, true}, {meas("1"), meas("2"), math.MaxInt, false}, {meas("1", "x", "1"), meas("2", "x", "1"), math.MaxInt, false},
		{meas("1", "x", "1"), meas("2", "x", "2"), 1, true}, {meas("1", "x", "1"), meas("3", "x", "2"), 1, false}, {meas("1", "x", "1"), meas("3", "x", "2"), 2, true}, {meas("1", "x", "1"), meas("3", "x", "-1"), 1, true},
		{great, greater, 2, false}, {great, greater, 3, true}, // 4 times 128 is below 529
		{meas(nines(600), "x", ten(599)), meas("-"+nines(600), "y", ten(599)), 14, false}, {meas(nines(600), "x", ten(599)), meas("-"+nines(600), "y", ten(599)), 15, true}, // 20 away, of the root of 2
	} {
		if yes, e := unc.Agree(c.a, c.b, c.k); yes != c.want || e != api.OK {
			t.Errorf("Agree(%v, %v, %d) = %v, %d", c.a.Value, c.b.Value, c.k, yes, e)
		}
	}
	for _, k := range []int{-1, math.MinInt} {
		if yes, e := unc.Agree(a, a, k); yes || e != api.ErrArg {
			t.Errorf("Agree of %d = %v, %d", k, yes, e)
		}
	}
}

// P4.7, P4.8.
func TestRingAndDerivation(t *testing.T) {
	r := rand.New(rand.NewSource(52))
	must := func(m api.Meas, e api.Errno) api.Meas {
		t.Helper()
		if e != api.OK {
			t.Fatal(e)
		}
		return m
	}
	for range 1500 {
		a, b, c := sample(r, 5, 4), sample(r, 5, 4), sample(r, 5, 4)
		for name, do := range map[string]two{"Add": unc.Add, "Mul": unc.Mul} {
			if !sameMeas(must(do(a, b)), must(do(b, a))) {
				t.Fatalf("%s of %v and %v is not commutative", name, a, b)
			}
			if !sameMeas(must(do(must(do(a, b)), c)), must(do(a, must(do(b, c))))) {
				t.Fatalf("%s of %v, %v and %v is not associative", name, a, b, c)
			}
		}
		if !sameMeas(must(unc.Mul(a, must(unc.Add(b, c)))), must(unc.Add(must(unc.Mul(a, b)), must(unc.Mul(a, c))))) {
			t.Fatalf("Mul of %v does not go over Add of %v and %v", a, b, c)
		}
		if m := must(unc.Sub(a, a)); !sameMeas(m, meas("0")) {
			t.Fatalf("Sub(a, a) = %v", m)
		}
		if b.Value.Num != "0" {
			if m := must(unc.Mul(must(unc.Quo(a, b)), b)); !sameMeas(m, a) {
				t.Fatalf("Quo(%v, %v) times b = %v", a, b, m)
			}
		}
		n := r.Intn(6)
		if m := must(unc.Mul(must(unc.Pow(a, n)), a)); !sameMeas(m, must(unc.Pow(a, n+1))) {
			t.Fatalf("Pow(%v, %d) times a = %v", a, n, m)
		}
	}
}

// P4.9, P4.10.
func TestCovariance(t *testing.T) {
	r := rand.New(rand.NewSource(53))
	cov := func(a, b api.Meas) *big.Rat {
		v, e := unc.Cov(a, b)
		if e != api.OK {
			t.Fatal(e)
		}
		return value(v)
	}
	for range 1500 {
		a, b, c := sample(r, 6, 5), sample(r, 6, 5), sample(r, 6, 5)
		k := sampleRat(r, 5)
		sum, _ := unc.Add(a, b)
		scaled, _ := unc.Scale(a, k)
		v, _ := unc.Var(sum)
		want := new(big.Rat)
		for _, s := range a.Sources {
			by, _ := unc.By(b, s.Name)
			want.Add(want, mul(value(s.By), value(by)))
		}
		switch {
		case cov(a, b).Cmp(want) != 0:
			t.Fatalf("Cov(%v, %v) = %v, not %v", a, b, cov(a, b), want)
		case cov(a, b).Cmp(cov(b, a)) != 0:
			t.Fatalf("Cov(%v, %v) is another one the other way", a, b)
		case cov(sum, c).Cmp(add(cov(a, c), cov(b, c))) != 0:
			t.Fatal("Cov does not go over sums")
		case cov(scaled, c).Cmp(mul(value(k), cov(a, c))) != 0:
			t.Fatal("Cov does not go over Scale")
		case value(v).Cmp(add(add(cov(a, a), cov(b, b)), mul(big.NewRat(2, 1), cov(a, b)))) != 0:
			t.Fatal("Var of a sum")
		case mul(cov(a, b), cov(a, b)).Cmp(mul(cov(a, a), cov(b, b))) > 0:
			t.Fatal("Cauchy and Schwarz")
		}
	}
}

// Rule 5: what is handed in stays as it is, spare room too; what is answered is new.
func TestMemory(t *testing.T) {
	room := append(meas("2", "a", "1", "b", "2").Sources, api.Source{Name: "spare", By: num("9")})
	a := api.Meas{Value: num("2"), Sources: room[:2]}
	b := meas("3", "b", "5", "c", "1")
	before, beforeB := slices.Clone(room), slices.Clone(b.Sources)
	answers := map[string]func() (api.Meas, api.Errno){
		"Add":   func() (api.Meas, api.Errno) { return unc.Add(a, b) },
		"Add0":  func() (api.Meas, api.Errno) { return unc.Add(a, meas("0")) },
		"Sub":   func() (api.Meas, api.Errno) { return unc.Sub(a, b) },
		"Mul":   func() (api.Meas, api.Errno) { return unc.Mul(a, b) },
		"Quo":   func() (api.Meas, api.Errno) { return unc.Quo(a, b) },
		"Neg":   func() (api.Meas, api.Errno) { return unc.Neg(a) },
		"Scale": func() (api.Meas, api.Errno) { return unc.Scale(a, rat.Of(1)) },
		"Pow":   func() (api.Meas, api.Errno) { return unc.Pow(a, 1) },
	}
	for name, call := range answers {
		m, e := call()
		again, _ := call()
		if e != api.OK || !sameMeas(m, again) {
			t.Errorf("%s: %d", name, e)
		}
		for i := range m.Sources {
			m.Sources[i] = api.Source{Name: "gone"}
		}
		if !slices.Equal(room, before) || !slices.Equal(b.Sources, beforeB) || sameMeas(m, again) {
			t.Errorf("%s shares memory with another list, or changes it", name)
		}
	}
}
