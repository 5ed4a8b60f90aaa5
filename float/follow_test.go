package float_test

import (
	"math"
	"math/rand"
	"slices"
	"strings"
	"testing"

	"cubit/api"
	"cubit/exact"
	"cubit/flo"
	"cubit/float"
	"cubit/house"
	"cubit/rat"
	"cubit/syntax"
)

// plain: without a scale, and without a power below 0?
func plain(h *house.House, x api.Tree) bool {
	for _, n := range x.Nodes {
		u, e := h.Unit(n.Text)
		if n.Kind == api.NName && e == api.OK && u.Offset != rat.Of(0) || n.Kind == api.NPow && n.Text[0] == '-' {
			return false
		}
	}
	return true
}

// P22.2, P5: where each exact number is a float's, both ways come to the same.
func TestLikeExact(t *testing.T) {
	r := rand.New(rand.NewSource(222))
	h, l, found := ownHouse(t), []api.Bound{bound("x", "3/2", api.Dim{1}), bound("y", "-7", api.Dim{0, 0, 1}), bound("q", "0", api.Dim{}), bound("p", "-1/4", api.Dim{})}, 0
next:
	for range 20000 {
		x, e, _ := syntax.Parse(grownWhole(r, false))
		if e != api.OK || !plain(h, x) {
			continue
		}
		numbers, e, _ := exact.Steps(h, x, l)
		floats, why, _ := float.Steps(h, x, l)
		if e != api.OK || why != api.OK {
			continue
		}
		for _, q := range numbers {
			f, e := flo.Near(q.Value)
			back, _ := flo.Exact(f)
			if e != api.OK || back != q.Value {
				continue next
			}
		}
		found++
		for i, q := range numbers {
			if back, e := flo.Exact(math.Float64frombits(floats[i].Bits)); back != q.Value || e != api.OK || floats[i].Dim != q.Dim {
				text, _ := syntax.Print(x)
				t.Errorf("%s: node %d: %s, and %s", text, i, short(q), short(floats[i]))
			}
		}
	}
	if found < 1500 {
		t.Error("so few:", found)
	}
}

// renamed: with other names of the variables.
func renamed(x api.Tree, l []api.Bound) (api.Tree, []api.Bound) {
	y, m := api.Tree{Nodes: slices.Clone(x.Nodes)}, slices.Clone(l)
	for i, b := range m {
		m[i].Name = "other" + strings.Repeat("r", i)
		for k, n := range y.Nodes {
			if n.Kind == api.NName && n.Text == b.Name && k < unitFrom(x) {
				y.Nodes[k].Text = m[i].Name
			}
		}
	}
	return y, m
}

// P22.4.
func TestOtherTexts(t *testing.T) {
	r := rand.New(rand.NewSource(224))
	h := ownHouse(t)
	l := []api.Bound{bound("x", "3/2", api.Dim{1}), bound("y", "-7", api.Dim{0, 0, 1}), bound("q", "0", api.Dim{}), bound("p", "-1/3", api.Dim{})}
	same := func(x, y api.Tree, l, m []api.Bound) {
		t.Helper()
		one, e, at := float.Steps(h, x, l)
		other, why, place := float.Steps(h, y, m)
		if !slices.Equal(one, other) || e != why || at != place {
			t.Errorf("%s: %s, %d, %d, and %s, %d, %d", short(x), short(one), e, at, short(other), why, place)
		}
	}
	for range 4000 {
		text := grown(r, r.Intn(4), r.Intn(5), false)
		x := tree(t, text)
		same(x, tree(t, "(("+text+"))"), l, l)
		same(x, tree(t, strings.NewReplacer(" ", "\t\n ", "*", "\u00b7", "/", "\u00f7").Replace(text)), l, l)
		printed, _ := syntax.Print(x)
		same(x, tree(t, printed), l, l)
		y, m := renamed(x, l)
		same(x, y, l, m)
	}
}

// P22.5: a beginning that is a tree.
func TestBeginnings(t *testing.T) {
	r := rand.New(rand.NewSource(225))
	h, l, found := ownHouse(t), variables(), 0
	for range 4000 {
		text := grown(r, r.Intn(3), r.Intn(4), false)
		x := tree(t, text)
		y := tree(t, "("+text+") "+pick(r, "* ", "+ ", "/ ", "- ")+"("+grown(r, r.Intn(3), r.Intn(3), false)+")")
		if !plain(h, y) {
			continue
		}
		one, e, _ := float.Steps(h, x, l)
		other, why, at := float.Steps(h, y, l)
		switch {
		case why == api.OK:
			found++
			if e != api.OK || !slices.Equal(one, other[:len(one)]) {
				t.Errorf("%s: %s, %d, and %s", text, short(one), e, short(other))
			}
		case e != api.OK && why != api.ErrDim && why != api.ErrName && why != api.ErrExp && at >= len(x.Nodes):
			t.Errorf("%s: %d, but with more behind it %d at %d", text, e, why, at)
		}
	}
	if found < 1000 {
		t.Error("so few:", found)
	}
}

// P5, P6: a spread plays no part, and no number changes an error of dimensions.
func TestWithoutSpread(t *testing.T) {
	h := ownHouse(t)
	for text, same := range map[string]string{"1.5(7)": "1.5", "2.0(3)e5 m": "2e5 m", "1(1) / (2(9) s)": "1 / (2 s)"} {
		one, _, _ := float.Eval(h, tree(t, text), nil)
		if other, e, _ := float.Eval(h, tree(t, same), nil); one != other || e != api.OK {
			t.Errorf("%q: %s, %d", text, short(one), e)
		}
	}
	for _, text := range []string{"1e400 m + 1 s", "1/0 m + 1 s", "sqrt(-1) m + 1 s", "10^4096 m + s", "1 m in s / 0"} {
		if _, e, at := float.Eval(h, tree(t, text), nil); e != api.ErrDim {
			t.Errorf("%q: %d, %d", text, e, at)
		}
	}
}
