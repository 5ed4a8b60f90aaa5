package spread_test

import (
	"math/big"
	"math/rand"
	"slices"
	"strconv"
	"testing"

	"cubit/api"
	"cubit/exact"
	"cubit/spread"
	"cubit/syntax"
	"cubit/unc"
)

// P23.3, P5: the value is the exact one; where exact comes to none, so does it.
func TestLikeExact(t *testing.T) {
	r := rand.New(rand.NewSource(233))
	for _, odd := range []bool{false, true} {
		h, found := ownHouse(t), 0
		if odd {
			h = oddHouse(t)
		}
		for range 5000 {
			x, e, _ := syntax.Parse(grownWhole(r, odd))
			if e != api.OK {
				continue
			}
			steps, e, at := spread.Steps(h, x, variables())
			quants, why, place := exact.Steps(h, x, variables())
			text, _ := syntax.Print(x)
			if e != api.OK {
				if why != api.OK && (e != why || at != place) && at >= place {
					t.Errorf("%s: %d at %d, and exactly %d at %d", text, e, at, why, place)
				}
				continue
			}
			found++
			if why != api.OK || len(quants) != len(steps) {
				t.Fatalf("%s: %d", text, why)
			}
			for i, s := range steps {
				if s.Value.Value != quants[i].Value || s.Dim != quants[i].Dim || !unc.Right(s.Value) {
					t.Errorf("%s: node %d: %s, and %s", text, i, short(s), short(quants[i]))
				}
			}
		}
		if found < 1500 {
			t.Error("so few:", found)
		}
	}
}

// smooth: an expression of chance in v, without uncertain numbers and constants.
func smooth(r *rand.Rand, most int) string {
	if most <= 0 || r.Intn(8) == 0 {
		return pick(r, "v", "v", "v", "2", "3/7", "0.5", "km / m", "0", "c")
	}
	part := func() string { return "(" + smooth(r, most-1-r.Intn(2)) + ")" }
	switch r.Intn(8) {
	case 0, 1:
		return part() + pick(r, " + ", " - ") + part()
	case 2, 3:
		return part() + pick(r, " * ", " / ") + part()
	case 4:
		return "-" + part()
	case 5:
		return "sqrt(" + part() + "^2)"
	case 6:
		return "abs(" + part() + ")"
	}
	return part() + "^" + pick(r, "0", "1", "2", "3", "-1", "-2", "7")
}

// derived: the number of a node, and its derivative in v, by the rules of the derivative; false, where it has none.
func derived(x api.Tree, at int, v *big.Rat) (f, d *big.Rat, ok bool) {
	n := x.Nodes[at]
	var a, da, b, db *big.Rat
	if n.A >= 0 {
		if a, da, ok = derived(x, n.A, v); !ok {
			return nil, nil, false
		}
	}
	if n.B >= 0 {
		if b, db, ok = derived(x, n.B, v); !ok {
			return nil, nil, false
		}
	}
	switch n.Kind {
	case api.NNumber:
		return bigOf(number(n.Text)), new(big.Rat), true
	case api.NName:
		return map[string]*big.Rat{"v": v, "km": big.NewRat(1000, 1), "m": big.NewRat(1, 1), "c": big.NewRat(5, 3)}[n.Text], map[string]*big.Rat{"v": big.NewRat(1, 1), "km": {}, "m": {}, "c": {}}[n.Text], true
	case api.NNeg:
		return new(big.Rat).Neg(a), new(big.Rat).Neg(da), true
	case api.NAdd:
		return add(a, b), add(da, db), true
	case api.NSub:
		return sub(a, b), sub(da, db), true
	case api.NMul:
		return mul(a, b), add(mul(da, b), mul(a, db)), true
	case api.NQuo:
		if b.Sign() == 0 {
			return nil, nil, false
		}
		return quo(a, b), quo(sub(mul(da, b), mul(a, db)), mul(b, b)), true
	case api.NPow:
		return derivedPower(n.Text, a, da)
	}
	return derivedCall(n.Text, a, da)
}

func derivedPower(text string, a, da *big.Rat) (f, d *big.Rat, ok bool) {
	n, _ := strconv.Atoi(text)
	switch {
	case n < 0 && a.Sign() == 0:
		return nil, nil, false
	case n == 0:
		return big.NewRat(1, 1), new(big.Rat), true
	}
	return raised(a, n), mul(mul(big.NewRat(int64(n), 1), raised(a, n-1)), da), true
}

func derivedCall(text string, a, da *big.Rat) (f, d *big.Rat, ok bool) {
	if text == "abs" {
		if a.Sign() < 0 {
			return new(big.Rat).Neg(a), new(big.Rat).Neg(da), true
		}
		return a, da, true
	}
	w, e := called(wild{at: a}, "sqrt")
	if e != api.OK {
		return nil, nil, false
	}
	if w.at.Sign() == 0 {
		return w.at, da, da.Sign() == 0
	}
	return w.at, quo(da, add(w.at, w.at)), true
}

// P23.4: By is the derivative.
func TestDerivatives(t *testing.T) {
	r := rand.New(rand.NewSource(234))
	h, found := ownHouse(t), 0
	for range 8000 {
		x, e, _ := syntax.Parse(smooth(r, r.Intn(6)))
		if e != api.OK {
			continue
		}
		at := pick(r, "0", "1", "-1", "2", "-7/3", "10", "1/1000")
		l := []api.Bound{{Name: "v", Value: meas(at, "v", "1")}, {Name: "c", Value: meas("5/3")}}
		got, e, _ := spread.Eval(h, x, l)
		f, d, ok := derived(x, len(x.Nodes)-1, bigOf(number(at)))
		if e == api.ErrLarge {
			continue
		}
		if ok != (e == api.OK) {
			t.Fatalf("%s: %d, %v", short(x), e, ok)
		}
		if !ok {
			continue
		}
		found++
		by, e := unc.By(got.Value, "v")
		if e != api.OK || bigOf(by).Cmp(d) != 0 || bigOf(got.Value.Value).Cmp(f) != 0 || len(got.Value.Sources) > 1 {
			text, _ := syntax.Print(x)
			t.Errorf("%s at %s: %s, not %s by %s", text, at, short(got), f, d)
		}
	}
	if found < 3000 {
		t.Error("so few:", found)
	}
}

// P23.4: where a tree is of the first degree, two values come apart by the derivative times as much as the variable does.
func TestOfTheFirstDegree(t *testing.T) {
	h := ownHouse(t)
	for _, text := range []string{"v", "3 v - 7", "(v + 2) / 5 - v", "2 (v - 1) (3 - 1/2)", "-(v / 4)", "v^1 + v^0", "sqrt(16) v", "5 - abs(-2) * v", "(v^2 - 1) - v^2 + v"} {
		eval := func(at string) api.Spreads {
			v, e, place := spread.Eval(h, tree(t, text), []api.Bound{{Name: "v", Value: meas(at, "v", "1")}})
			if e != api.OK {
				t.Fatal(text, e, place)
			}
			return v
		}
		for _, pair := range [][2]string{{"0", "1"}, {"-5/3", "7"}, {"1e50", "1e-50"}} {
			one, other := eval(pair[0]), eval(pair[1])
			by, _ := unc.By(one.Value, "v")
			want := mul(bigOf(by), sub(bigOf(number(pair[1])), bigOf(number(pair[0]))))
			if sub(bigOf(other.Value.Value), bigOf(one.Value.Value)).Cmp(want) != 0 || !slices.Equal(one.Value.Sources, other.Value.Sources) {
				t.Errorf("%q from %s to %s: %s, %s", text, pair[0], pair[1], short(one), short(other))
			}
		}
	}
}

// P23.5: a value taken from itself has no uncertainty, and two with own sources have; no source comes from anywhere else.
func TestWhereSourcesComeFrom(t *testing.T) {
	r := rand.New(rand.NewSource(235))
	for _, odd := range []bool{false, true} {
		h, found := ownHouse(t), 0
		if odd {
			h = oddHouse(t)
		}
		for range 4000 {
			x, e, _ := syntax.Parse(grownWhole(r, odd))
			if e != api.OK {
				continue
			}
			l := variables()
			v, e, _ := spread.Eval(h, x, l)
			if e != api.OK {
				continue
			}
			found++
			from := map[string]int{}
			for i, n := range x.Nodes {
				if n.A >= 0 {
					continue
				}
				w, _ := comes(h, x, l, i, nil)
				for name := range w.by {
					from[name]++
				}
			}
			for _, s := range v.Value.Sources {
				if from[s.Name] == 0 {
					t.Errorf("%s: from where is %s?", short(x), s.Name)
				}
			}
			instead := append([]api.Bound{{Name: "it", Value: v.Value, Dim: v.Dim}}, l...)
			if d, e, _ := spread.Eval(h, tree(t, "it - it"), instead); d.Value.Value.Num != "0" || len(d.Value.Sources) > 0 || e != api.OK {
				t.Errorf("%s: less itself %s, %d", short(x), short(d), e)
			}
		}
		if found < 1000 {
			t.Error("so few:", found)
		}
	}
	h := ownHouse(t)
	l := []api.Bound{{Name: "x", Value: meas("3", "a", "1")}, {Name: "y", Value: meas("3", "b", "1")}}
	for text, want := range map[string]int{"x - x": 0, "y - y": 0, "x - y": 2, "x / x": 0, "x / y": 2, "1(1) - 1(1)": 2, "electron - electron": 0, "electron - melec": 0, "x - x + y": 1} {
		if v, e, _ := spread.Eval(h, tree(t, text), l); len(v.Value.Sources) != want || e != api.OK {
			t.Errorf("%q: %s, %d", text, short(v), e)
		}
	}
}

// P6: other numbers and spreads change no error of dimensions.
func TestWhateverTheNumbersAre(t *testing.T) {
	h := ownHouse(t)
	for _, text := range []string{"1e300(1) m + 1 s", "1/0 m + 1 s", "0(1)^-1 m + 1 s", "sqrt(0(1)) m + 1 s", "10(1)^4096 m + s"} {
		x := tree(t, text)
		if _, e, at := spread.Eval(h, x, nil); e != api.ErrDim || x.Nodes[at].Text != "" && x.Nodes[at].Text != "s" {
			t.Errorf("%q: %d, %d", text, e, at)
		}
	}
}
