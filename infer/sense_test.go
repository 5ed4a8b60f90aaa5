package infer_test

import (
	"math/big"
	"math/rand"
	"slices"
	"strconv"
	"strings"
	"testing"

	"cubit/api"
	"cubit/decl"
	"cubit/house"
	"cubit/infer"
	"cubit/lex"
	"cubit/rat"
	"cubit/syntax"
)

// timesUnit: a constant's number times the factor of its unit; a zero value, if that is not right.
func timesUnit(h *house.House, x api.Rat, unit string) api.Rat {
	v, _ := new(big.Rat).SetString(x.Num + "/" + x.Den)
	for _, part := range strings.Fields(unit) {
		word, power, is := strings.Cut(part, "^")
		if !is {
			power = "1"
		}
		u, _ := h.Unit(word)
		f, _ := new(big.Rat).SetString(u.Factor.Num + "/" + u.Factor.Den)
		v.Mul(v, raised(f, power))
	}
	r := api.Rat{Num: v.Num().String(), Den: v.Denom().String()}
	if !rat.Right(r) {
		return api.Rat{}
	}
	return r
}

// sensed: what Senses should say of a node, in the words that stand at its type.
func sensed(h *house.House, t api.Tree, l []api.Bound, i int) infer.Sense {
	n := t.Nodes[i]
	first := slices.IndexFunc(l, func(b api.Bound) bool { return b.Name == n.Text })
	u, e := h.Unit(n.Text)
	switch {
	case n.Kind == api.NNumber:
		v, by, _ := lex.Number(n.Text)
		return infer.Sense{Kind: infer.SNumber, Value: v, Spread: by}
	case n.Kind == api.NMul:
		if b := t.Nodes[n.B]; b.Kind == api.NName {
			if s := sensed(h, t, l, n.B); s.Kind == infer.SUnit && isScale(s.Unit) {
				return infer.Sense{Kind: infer.SScale, Unit: s.Unit}
			}
		}
		return infer.Sense{}
	case n.Kind != api.NName:
		return infer.Sense{}
	case first >= 0 && i < unitFrom(t):
		return infer.Sense{Kind: infer.SVariable, Bound: first, Value: l[first].Value.Value}
	case e == api.OK:
		return infer.Sense{Kind: infer.SUnit, Unit: u, Value: u.Factor}
	}
	c, _ := h.Const(n.Text)
	return infer.Sense{Kind: infer.SConst, Const: c, Value: timesUnit(h, c.Value, c.Unit), Spread: timesUnit(h, c.Spread, c.Unit)}
}

func checkSenses(t *testing.T, h *house.House, x api.Tree, l []api.Bound) bool {
	t.Helper()
	dims, why, place := infer.Dims(h, x, l)
	got, e, at := infer.Senses(h, x, l)
	if e != why || at != place || len(got) != len(dims) {
		t.Errorf("%s: %d at %d, not %d at %d", short(x), e, at, why, place)
		return false
	}
	for i, s := range got {
		want := sensed(h, x, l, i)
		want.Dim = dims[i]
		if s != want {
			t.Errorf("%s: node %d: %s, not %s", short(x), i, short(s), short(want))
		}
	}
	return why == api.OK
}

func TestSenses(t *testing.T) {
	r := rand.New(rand.NewSource(208))
	l := []api.Bound{bound("x", api.Dim{1}), bound("y", api.Dim{0, 0, 1}), bound("q", api.Dim{}), bound("x", api.Dim{5})}
	for i := range l {
		l[i].Value.Value = rat.Of(int64(i) * 7)
	}
	for _, odd := range []bool{false, true} {
		h := ownHouse(t)
		if odd {
			h = oddHouse(t)
		}
		found := 0
		for range 8000 {
			x, e, _ := syntax.Parse(grownWhole(r, odd))
			if e == api.OK && checkSenses(t, h, x, l[:r.Intn(5)]) {
				found++
			}
		}
		if found < 1000 {
			t.Error("so few:", found)
		}
	}
	if s, e, at := infer.Senses(nil, tree(t, "1"), nil); e != api.ErrNil || at != 0 || len(s) > 0 {
		t.Error(s, e, at)
	}
}

// Constants whose numbers cancel out, are 0, below 0, or too large.
func TestSensesOfConstants(t *testing.T) {
	text := "base metre m L 1 si\nunit big big 1e300 none m\nunit small small 1e-300 none m\n"
	for i, line := range []string{"1 0 big^2", "0 0 big^2", "0 1 big^2", "-3/7 1/3 big small", "1e-300 1 big^2", "1 1e-300 big^2", "-1e300 0 small^-2", "1 1 big^33 small^33 big^-33", "5 0", "-5 0"} {
		text += "const " + strings.Repeat("c", i+1) + " C" + strconv.Itoa(i) + " " + line + "\n"
	}
	l, e, at := decl.Parse(text)
	if e != api.OK {
		t.Fatal(e, at)
	}
	h, e, at := house.Build(l)
	if e != api.OK {
		t.Fatal(e, at)
	}
	for _, c := range h.Consts() {
		checkSenses(t, h, tree(t, c.Name+" * 2 "+c.Symbol+" / "+c.Name), nil)
	}
	s, _, _ := infer.Senses(h, tree(t, "C2"), nil)
	if s[0].Value != rat.Of(0) || s[0].Spread != (api.Rat{}) {
		t.Error(short(s))
	}
}
