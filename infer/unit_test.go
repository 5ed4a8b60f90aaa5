package infer_test

import (
	"math/rand"
	"strings"
	"testing"

	"cubit/api"
	"cubit/dim"
	"cubit/house"
	"cubit/infer"
	"cubit/rat"
	"cubit/syntax"
)

func unitOf(d api.Dim, factor string) api.Unit {
	f, _, _ := rat.Parse(factor)
	return api.Unit{Dim: d, Factor: f, Offset: rat.Of(0)}
}

// checkUnit: Unit against the model.
func checkUnit(t *testing.T, h *house.House, x api.Tree) api.Errno {
	t.Helper()
	want, why, place := joining(h, x)
	if len(x.Nodes) == 1 && x.Nodes[0].Kind == api.NName {
		want, why = h.Unit(x.Nodes[0].Text)
		place = 0
	}
	got, e, at := infer.Unit(h, x)
	if got != want || e != why || at != place {
		text, _ := syntax.Print(x)
		t.Errorf("Unit(%.300q) = %s, %d, %d, not %s, %d, %d", text, short(got), e, at, short(want), why, place)
	}
	return why
}

// P20.2: the chapter's examples, and what its words say of their like.
func TestUnit(t *testing.T) {
	h := ownHouse(t)
	for text, want := range map[string]api.Unit{
		"km / h": unitOf(api.Dim{1, 0, -1}, "5/18"), "100 km": unitOf(api.Dim{1}, "100000"), "1": unitOf(api.Dim{}, "1"), "2.50": unitOf(api.Dim{}, "5/2"), "1e-3 / 7": unitOf(api.Dim{}, "1/7000"), "km^2": unitOf(api.Dim{2}, "1000000"), "km^-2": unitOf(api.Dim{-2}, "1/1000000"), "km^0": unitOf(api.Dim{}, "1"), "km^1": unitOf(api.Dim{1}, "1000"), "m m": unitOf(api.Dim{2}, "1"), "(mi/h)^-1": unitOf(api.Dim{-1, 0, 1}, "3125/1397"), "2^-3": unitOf(api.Dim{}, "1/8"), "kW h": unitOf(api.Dim{2, 1, -2}, "3600000"), "m^99": unitOf(api.Dim{99}, "1"), "1e599": unitOf(api.Dim{}, "1e599"), "rad": {}, "1 K": unitOf(api.Dim{0, 0, 0, 0, 1}, "1"), "m/m": unitOf(api.Dim{}, "1"), "1^4096": unitOf(api.Dim{}, "1"), "(m/m)^4096": unitOf(api.Dim{}, "1"), "9 / 3": unitOf(api.Dim{}, "3"),
	} {
		if want == (api.Unit{}) {
			want, _ = h.Unit(text)
		}
		if got, e, at := infer.Unit(h, tree(t, text)); got != want || e != api.OK || at != 0 {
			t.Errorf("Unit(%q) = %s, %d, %d, not %s", text, short(got), e, at, short(want))
		}
		checkUnit(t, h, tree(t, text))
	}
	for _, text := range []string{"\u00b0C", "celsius", "degF", "km", "m", "(m)", "us"} { // one name alone: that unit, with all that it has
		want, _ := h.Unit(strings.Trim(text, "()"))
		if got, e, at := infer.Unit(h, tree(t, text)); got != want || e != api.OK || at != 0 || got.Name == "" {
			t.Errorf("Unit(%q) = %s, %d, %d", text, short(got), e, at)
		}
	}
}

// P20.2: the first node that can not be.
func TestUnitFaults(t *testing.T) {
	h := ownHouse(t)
	for text, want := range map[string][2]int{
		"m + m": {3, 2}, "m - s": {3, 2}, "-m": {3, 1}, "-2 m": {3, 1}, "sqrt(m)": {3, 1}, "abs(m^2)": {3, 2}, "m in m": {3, 2}, "2 + foo": {200, 1}, "-foo": {200, 0}, "foo + \u00b0C": {200, 0}, "m in \u00b0C": {120, 1}, "m in foo": {200, 1}, "sqrt(foo)": {200, 0},
		"2(1)": {3, 0}, "2(0) m": {3, 0}, "2.0(1)e5 m": {3, 0}, "m * 0": {3, 1}, "0": {3, 0}, "0.00e5 m": {3, 0}, "m / 0": {3, 1}, "0^0": {3, 0}, "(0 m)^-1": {3, 0},
		"foo": {200, 0}, "light": {200, 0}, "m light": {200, 1}, "kmi": {200, 0}, "1 \u00b0C": {120, 1}, "\u00b0C^1": {120, 0}, "m / degF": {120, 1}, "\u00b0C \u00b0C": {120, 0},
		"m^100": {51, 1}, "m^50 m^50": {51, 4}, "m^60 / m^-60": {51, 4}, "m^-4096": {51, 1}, "(1e300 m)^100": {51, 3}, "km^99 km^99": {51, 4},
		"10^600": {7, 1}, "10^-600": {7, 1}, "1e300 * 1e300": {7, 2}, "1e300 * 1e300 / 1e300": {7, 2}, "1e-300 / 1e300": {7, 2}, "(1e300 * 1e300) foo": {7, 2}, "Ym^26": {7, 1}, "3^4096": {7, 1}, "(1/3)^-4096": {7, 3}, "1e599 * 10": {7, 2},
	} {
		if got, e, at := infer.Unit(h, tree(t, text)); int(e) != want[0] || at != want[1] || got != (api.Unit{}) {
			t.Errorf("Unit(%q) = %s, %d, %d, not %v", text, short(got), e, at, want)
		}
		checkUnit(t, h, tree(t, text))
	}
	odd := oddHouse(t)
	for text, want := range map[string][2]int{"dam": {71, 0}, "hbig": {7, 0}, "m dam": {71, 1}, "m / hbig": {7, 1}, "C": {0, 0}, "1 C": {120, 1}, "z z": {0, 0}, "c": {200, 0}, "1 one": {200, 1}, "far^2": {51, 1}, "half / half": {0, 0}} {
		if _, e, at := infer.Unit(odd, tree(t, text)); int(e) != want[0] || at != want[1] {
			t.Errorf("Unit(%q) = %d, %d", text, e, at)
		}
		checkUnit(t, odd, tree(t, text))
	}
	wrong := api.Tree{Nodes: []api.Node{{Kind: api.NName, Text: "m", A: -1, B: -1}, {Kind: api.NName, Text: "in", A: -1, B: -1}}}
	for i, c := range []struct {
		h    *house.House
		tree api.Tree
		why  api.Errno
		at   int
	}{{nil, tree(t, "m"), api.ErrNil, 0}, {nil, wrong, api.ErrNil, 0}, {nil, api.Tree{}, api.ErrNil, 0}, {h, api.Tree{}, api.ErrSize, 0}, {h, wrong, api.ErrForm, 1}} {
		if got, e, at := infer.Unit(c.h, c.tree); e != c.why || at != c.at || got != (api.Unit{}) {
			t.Errorf("%d: %s, %d, %d", i, short(got), e, at)
		}
	}
}

// grownUnits: units of chance, and what is none.
func grownUnits(r *rand.Rand, most int, odd bool) string {
	if most <= 0 || r.Intn(6) == 0 {
		if r.Intn(4) == 0 {
			return pick(r, "2", "7", "1.5", "100", "1e-3", "1e200", "3", pick(r, "0", "2(1)", "1e500"))
		}
		if r.Intn(5) == 0 {
			return spoken(r, odd)
		}
		return pick(r, "m", "km", "s", "dm", "K")
	}
	part := func() string { return "(" + grownUnits(r, most-1-r.Intn(2), odd) + ")" }
	switch r.Intn(8) {
	case 0, 1, 2:
		return part() + pick(r, " * ", " ") + part()
	case 3, 4:
		return part() + " / " + part()
	case 5, 6:
		return part() + "^" + pick(r, "2", "-1", "3", "1", "0", "-2", pick(r, "60", "300", "-4096"))
	}
	return pick(r, part(), "("+part()+"^3)^2", pick(r, "-"+part(), part()+" + "+part(), "abs("+part()+")"))
}

// P20.2: against the model, in both houses.
func TestUnits(t *testing.T) {
	r := rand.New(rand.NewSource(202))
	seen := map[api.Errno]int{}
	for _, odd := range []bool{false, true} {
		h := ownHouse(t)
		if odd {
			h = oddHouse(t)
		}
		for range 10000 {
			text := grownUnits(r, r.Intn(6), odd)
			seen[checkUnit(t, h, tree(t, text))]++
		}
	}
	for _, e := range []api.Errno{api.OK, api.ErrForm, api.ErrUnit, api.ErrAffine, api.ErrExp, api.ErrLarge, api.ErrMixed} {
		if seen[e] < 50 {
			t.Error("so few of", e, seen)
		}
	}
}

// P20.7.
func TestProductsOfUnits(t *testing.T) {
	r := rand.New(rand.NewSource(207))
	h := ownHouse(t)
	found := 0
	for range 10000 {
		a, b := grownUnits(r, r.Intn(4), false), grownUnits(r, r.Intn(4), false)
		u, e, _ := infer.Unit(h, tree(t, a))
		v, why, _ := infer.Unit(h, tree(t, b))
		if e != api.OK || why != api.OK || u.Offset != rat.Of(0) || v.Offset != rat.Of(0) {
			continue
		}
		w, e, at := infer.Unit(h, tree(t, "("+a+") * ("+b+")"))
		d, exp := dim.Mul(u.Dim, v.Dim)
		f, large := rat.Mul(u.Factor, v.Factor)
		if exp != api.OK || large != api.OK {
			continue
		}
		found++
		if w != (api.Unit{Dim: d, Factor: f, Offset: rat.Of(0)}) || e != api.OK {
			t.Errorf("(%q) * (%q) = %s, %d, %d", a, b, short(w), e, at)
		}
	}
	if found < 2000 {
		t.Error("so few:", found)
	}
}
