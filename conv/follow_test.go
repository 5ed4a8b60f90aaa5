package conv_test

import (
	"math/rand"
	"testing"

	"cubit/api"
	"cubit/conv"
	"cubit/graph"
	"cubit/house"
	"cubit/rat"
	"cubit/unc"
)

// houses: the own one, and the odd one.
func houses(t *testing.T) []*house.House {
	return []*house.House{ownHouse(t), oddHouse(t)}
}

// P24.7, P4: a neutral one, opposites, and one behind the other.
func TestGroup(t *testing.T) {
	r := rand.New(rand.NewSource(247))
	for i, h := range houses(t) {
		odd, found := i == 1, 0
		for range 6000 {
			meant, x := r.Intn(4), sample(r)
			a, b, c := grown(r, meant, odd), grown(r, meant, odd), grown(r, meant, odd)
			if same, e := conv.To(h, x, a, a); e == api.OK && same != x || e == api.ErrLarge && rightText(h, a) {
				t.Errorf("To(%s, %q, itself) = %s, %d", short(x), a, short(same), e)
			}
			ab, e := conv.To(h, x, a, b)
			if e != api.OK {
				continue
			}
			if back, e := conv.To(h, ab, b, a); back != x || e != api.OK {
				t.Errorf("To(%s, %q, %q) and back: %s, %d", short(x), a, b, short(back), e)
			}
			ac, e := conv.To(h, x, a, c)
			if e != api.OK {
				continue
			}
			found++
			if bc, e := conv.To(h, ab, b, c); bc != ac || e != api.OK {
				t.Errorf("To(%s, %q, %q, %q) = %s, %d, not %s", short(x), a, b, c, short(bc), e, short(ac))
			}
		}
		if found < 2000 {
			t.Error("so few:", found)
		}
	}
}

func rightText(h *house.House, text string) bool {
	_, e, _ := conv.Unit(h, text)
	return e == api.OK
}

// P24.8, P4: the hops, one behind the other, are To.
func TestAnyPath(t *testing.T) {
	r := rand.New(rand.NewSource(248))
	for i, h := range houses(t) {
		odd, found := i == 1, 0
		for range 5000 {
			from, into := grownPair(r, odd)
			x := sample(r)
			want, e := conv.To(h, x, from, into)
			way, why := conv.Way(h, from, into)
			if e != api.OK || why != api.OK {
				continue
			}
			found++
			at, v := from, bigOf(x)
			for _, hop := range way {
				if hop.From != at {
					t.Errorf("Way(%q, %q) does not hold together: %s", from, into, short(way))
				}
				at = hop.To
				v.Mul(v, bigOf(hop.Mul)).Add(v, bigOf(hop.Add))
			}
			if got, e := told(v); got != want || e != api.OK || at != into {
				t.Errorf("by Way(%q, %q) %s is %s, %d, not %s", from, into, short(x), short(got), e, short(want))
			}
		}
		if found < 2000 {
			t.Error("so few:", found)
		}
	}
}

// P24.8: between symbols it is Convert, and what the graph of the house's edges tells.
func TestSymbols(t *testing.T) {
	r := rand.New(rand.NewSource(250))
	for _, h := range houses(t) {
		g, e, at, _ := graph.New(h.Edges())
		if e != api.OK {
			t.Fatal(e, at)
		}
		units := h.Units()
		for _, a := range units {
			for _, b := range units {
				x := sample(r)
				want, why := h.Convert(x, a.Symbol, b.Symbol)
				got, e := conv.To(h, x, a.Symbol, b.Symbol)
				if got != want || e != why {
					t.Errorf("To(%s, %q, %q) = %s, %d, not %s, %d", short(x), a.Symbol, b.Symbol, short(got), e, short(want), why)
				}
				if a.Symbol == b.Symbol || a.Dim != b.Dim {
					continue
				}
				if by, why := g.Convert(x, a.Symbol, b.Symbol); by != got || e != why {
					t.Errorf("To(%s, %q, %q) = %s, %d, by the graph %s, %d", short(x), a.Symbol, b.Symbol, short(got), e, short(by), why)
				}
			}
		}
	}
}

// P24.9.
func TestInOfQuant(t *testing.T) {
	r := rand.New(rand.NewSource(251))
	for i, h := range houses(t) {
		odd, found := i == 1, 0
		for range 5000 {
			from, into := grownPair(r, odd)
			x := sample(r)
			q, e := conv.Quant(h, x, from)
			if e != api.OK {
				continue
			}
			found++
			want, why := conv.To(h, x, from, into)
			if got, e := conv.In(h, q, into); got != want || e != why {
				t.Errorf("In(Quant(%s, %q), %q) = %s, %d, not %s, %d", short(x), from, into, short(got), e, short(want), why)
			}
		}
		if found < 2000 {
			t.Error("so few:", found)
		}
	}
}

func isScale(h *house.House, text string) bool {
	u, e, _ := conv.Unit(h, text)
	return e == api.OK && u.Offset != rat.Of(0)
}

// P24.10.
func TestProducts(t *testing.T) {
	r := rand.New(rand.NewSource(252))
	for i, h := range houses(t) {
		odd, found := i == 1, 0
		for range 5000 {
			one, other := r.Intn(4), r.Intn(4)
			a, b, c, d := grown(r, one, odd), grown(r, other, odd), grown(r, one, odd), grown(r, other, odd)
			if isScale(h, a) || isScale(h, b) || isScale(h, c) || isScale(h, d) {
				continue
			}
			ac, e := conv.To(h, rat.Of(1), a, c)
			bd, why := conv.To(h, rat.Of(1), b, d)
			both, no := conv.To(h, rat.Of(1), "("+a+") * ("+b+")", "("+c+") * ("+d+")")
			if e != api.OK || why != api.OK || no != api.OK {
				continue
			}
			found++
			if want, e := rat.Mul(ac, bd); both != want || e != api.OK {
				t.Errorf("%q %q to %q %q: %s, not %s, %d", a, b, c, d, short(both), short(want), e)
			}
		}
		if found < 1000 {
			t.Error("so few:", found)
		}
	}
}

// P24.11: over sums, and Var with the square of the factors.
func TestSumsAndVar(t *testing.T) {
	r := rand.New(rand.NewSource(253))
	for i, h := range houses(t) {
		odd, found := i == 1, 0
		for range 5000 {
			from, into := grownPair(r, odd)
			m, n := sampleMeas(r), sampleMeas(r)
			one, e := conv.Unc(h, m, from, into)
			other, why := conv.Unc(h, n, from, into)
			sum, no := unc.Add(m, n)
			if e != api.OK || why != api.OK || no != api.OK {
				continue
			}
			if got, e := conv.Unc(h, sum, from, into); e == api.OK && !isScale(h, from) && !isScale(h, into) {
				want, why := unc.Add(one, other)
				if why != api.OK || !sameMeas(got, want) {
					t.Errorf("Unc(%s, %q, %q) = %s, not %s, %d", short(sum), from, into, short(got), short(want), why)
				}
			}
			before, e := unc.Var(m)
			after, why := unc.Var(one)
			if e != api.OK || why != api.OK {
				continue
			}
			found++
			a, b, _ := units(h, from, into)
			times := bigOf(a.Factor)
			times.Quo(times, bigOf(b.Factor))
			want := times.Mul(times, times)
			if want.Mul(want, bigOf(before)); want.Cmp(bigOf(after)) != 0 {
				t.Errorf("Var of %s from %q to %q: %s", short(m), from, into, short(after))
			}
		}
		if found < 1000 {
			t.Error("so few:", found)
		}
	}
}
