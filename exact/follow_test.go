package exact_test

import (
	"math/rand"
	"testing"

	"cubit/api"
	"cubit/exact"
	"cubit/house"
	"cubit/rat"
	"cubit/syntax"
)

// scaled: does a scale's name stand in a tree?
func scaled(h *house.House, x api.Tree) bool {
	for _, name := range syntax.Names(x) {
		if u, e := h.Unit(name); e == api.OK && u.Offset != rat.Of(0) {
			return true
		}
	}
	return false
}

// evalText: of a text that is read.
func evalText(t *testing.T, h *house.House, text string, l []api.Bound) (api.Quant, api.Errno, int) {
	t.Helper()
	return exact.Eval(h, tree(t, text), l)
}

// P21.3: of a node it is what is made of its kids.
func TestAlongWithTheTree(t *testing.T) {
	r := rand.New(rand.NewSource(213))
	h, l, found := ownHouse(t), variables(), 0
	joins := map[string]func(a, b api.Rat) (api.Rat, api.Errno){"+": rat.Add, "-": rat.Sub, "*": rat.Mul, "/": rat.Quo}
	for range 4000 {
		meant := r.Intn(3)
		one, other := grown(r, meant, r.Intn(4), false), grown(r, meant, r.Intn(4), false)
		a, e, _ := evalText(t, h, one, l)
		b, why, _ := evalText(t, h, other, l)
		if e != api.OK || why != api.OK || a.Dim != b.Dim {
			continue
		}
		for sign, join := range joins {
			x := tree(t, "("+one+") "+sign+" ("+other+")")
			want, why := join(a.Value, b.Value)
			got, e, at := exact.Eval(h, x, l)
			if e == api.ErrExp {
				continue
			}
			found++
			if got.Value != want || e != why || why != api.OK && at != len(x.Nodes)-1 {
				t.Errorf("(%s) %s (%s) = %s, %d, %d, not %s, %d", one, sign, other, short(got), e, at, short(want), why)
			}
		}
		minus, _ := rat.Neg(a.Value)
		if got, e, _ := evalText(t, h, "-("+one+")", l); got.Value != minus || e != api.OK {
			t.Errorf("-(%s) = %s, %d", one, short(got), e)
		}
		if got, e, _ := evalText(t, h, "abs("+one+")", l); e != api.OK || got.Value != a.Value && got.Value != minus || got.Value.Num[0] == '-' {
			t.Errorf("abs(%s) = %s, %d", one, short(got), e)
		}
		if got, e, _ := evalText(t, h, "sqrt(("+one+")^2)", l); e == api.OK && got.Value != a.Value && got.Value != minus {
			t.Errorf("sqrt((%s)^2) = %s, %d", one, short(got), e)
		}
	}
	if found < 3000 {
		t.Error("so few:", found)
	}
}

// P21.3: a tree in the place of a name is a variable with what it comes to.
func TestGraft(t *testing.T) {
	r := rand.New(rand.NewSource(214))
	h, found := ownHouse(t), 0
	for range 4000 {
		x, e, _ := syntax.Parse(grown(r, r.Intn(3), r.Intn(5), false))
		by, why, _ := syntax.Parse(grown(r, 1, r.Intn(3), false))
		if e != api.OK || why != api.OK || scaled(h, x) || scaled(h, by) {
			continue
		}
		l := variables()
		value, e, _ := exact.Eval(h, by, l)
		both, why := syntax.Graft(x, "x", by)
		if e != api.OK || why != api.OK {
			continue
		}
		got, e, _ := exact.Eval(h, both, l)
		instead := append([]api.Bound{{Name: "x", Value: api.Meas{Value: value.Value}, Dim: value.Dim}}, l...)
		want, why, _ := exact.Eval(h, x, instead)
		found++
		if got != want || e != why {
			t.Errorf("%s, %d, not %s, %d", short(got), e, short(want), why)
		}
	}
	if found < 1000 {
		t.Error("so few:", found)
	}
}

// P21.4: as far as each comes to a number.
func TestLaws(t *testing.T) {
	r := rand.New(rand.NewSource(215))
	h, l, found := oddHouse(t), variables(), 0
	for range 4000 {
		meant := r.Intn(3)
		part := func(meant int) string { return "(" + grown(r, meant, r.Intn(3), true) + ")" }
		a, b, c, factor := part(meant), part(meant), part(meant), part(0)
		for _, pair := range [][2]string{{a + "+" + b, b + "+" + a}, {factor + "*" + b, b + "*" + factor}, {"(" + a + "+" + b + ")+" + c, a + "+(" + b + "+" + c + ")"}, {factor + "*(" + b + "+" + c + ")", factor + "*" + b + "+" + factor + "*" + c}} {
			one, e, _ := evalText(t, h, pair[0], l)
			other, why, _ := evalText(t, h, pair[1], l)
			if e != api.OK || why != api.OK {
				continue
			}
			found++
			if one != other {
				t.Errorf("%s: %s, and %s", pair, short(one), short(other))
			}
		}
	}
	if found < 3000 {
		t.Error("so few:", found)
	}
}

// P21.5.
func TestToldTimesTheUnit(t *testing.T) {
	r := rand.New(rand.NewSource(216))
	h, l, found := ownHouse(t), variables(), 0
	units := [][]string{{"1", "2.5", "kB / b", "rad", "m^0"}, {"m", "km", "mi / 7", "100 yd", "m^2 / (3 m)"}, {"s", "h", "ms", "1e-5 h"}, {"K", "2 K", "mK"}}
	for range 4000 {
		meant := r.Intn(4)
		x, u := grown(r, meant, r.Intn(4), false), pick(r, units[meant]...)
		want, e, _ := evalText(t, h, x, l)
		if e != api.OK {
			continue
		}
		v, text, e, at := exact.Told(h, tree(t, "("+x+") in "+u), l)
		if e == api.ErrLarge || e == api.ErrDim {
			continue
		}
		printed, _ := syntax.Print(tree(t, u))
		if e != api.OK || text != printed {
			t.Errorf("%s in %s: %q, %d, %d", x, u, text, e, at)
		}
		found++
		back := append([]api.Bound{{Name: "back", Value: api.Meas{Value: v}}}, l...)
		if got, e, _ := evalText(t, h, "back * ("+u+")", back); got != want || e != api.OK {
			t.Errorf("%s in %s is %s: %s, %d", x, u, short(v), short(got), e)
		}
	}
	if found < 1000 {
		t.Error("so few:", found)
	}
}

// P5, P6: other spreads of numbers and variables change nothing; other numbers change no error of dimensions.
func TestWithoutSpread(t *testing.T) {
	h := ownHouse(t)
	spread := api.Bound{Name: "x", Value: api.Meas{Value: number("3/2"), Sources: []api.Source{{Name: "a", By: number("7")}}}, Dim: api.Dim{1}}
	for _, text := range []string{"x^2 * 1.5", "2 x in km", "x - x", "electron * x"} {
		one, e, _ := evalText(t, h, text, variables())
		other, why, _ := evalText(t, h, text, []api.Bound{spread})
		if one != other || e != api.OK || why != api.OK {
			t.Errorf("%q: %s, %d, and %s, %d", text, short(one), e, short(other), why)
		}
	}
	for text, same := range map[string]string{"1.5(7)": "1.5", "2.0(3)e5 m": "2e5 m", "1(1) / (2(9) s)": "1 / (2 s)"} {
		one, _, _ := evalText(t, h, text, nil)
		if other, e, _ := evalText(t, h, same, nil); one != other || e != api.OK {
			t.Errorf("%q: %s, %d", text, short(one), e)
		}
	}
	for _, text := range []string{"1e300 m + 1 s", "1/0 m + 1 s", "0^-1 m + 1 s", "sqrt(2) m + 1 s", "10^4096 m + s"} {
		x := tree(t, text)
		if _, e, at := exact.Eval(h, x, nil); e != api.ErrDim || x.Nodes[at].Text != "" && x.Nodes[at].Text != "s" {
			t.Errorf("%q: %d, %d", text, e, at)
		}
	}
}
