package infer_test

import (
	"math/rand"
	"slices"
	"testing"

	"cubit/api"
	"cubit/house"
	"cubit/infer"
	"cubit/rat"
	"cubit/syntax"
)

// scaled: does a scale stand in a tree?
func scaled(h *house.House, x api.Tree, l []api.Bound) bool {
	return slices.ContainsFunc(x.Nodes, func(n api.Node) bool {
		u, e := h.Unit(n.Text)
		return n.Kind == api.NName && e == api.OK && isScale(u)
	})
}

func isIn(x api.Tree) bool { return x.Nodes[len(x.Nodes)-1].Kind == api.NIn }

// P20.4, and P6: other numbers, other values, the same dimensions or the same fault.
func TestWhateverTheNumbersAre(t *testing.T) {
	r := rand.New(rand.NewSource(204))
	h := ownHouse(t)
	for range 5000 {
		x, e, _ := syntax.Parse(grownWhole(r, false))
		if e != api.OK {
			continue
		}
		l := []api.Bound{bound("x", api.Dim{1}), bound("y", api.Dim{0, 0, 1}), bound("q", api.Dim{})}
		dims, why, at := infer.Dims(h, x, l)
		other := api.Tree{Nodes: slices.Clone(x.Nodes)}
		for i, n := range other.Nodes {
			if n.Kind == api.NNumber && i < unitFrom(x) {
				other.Nodes[i].Text = pick(r, "0", "1", "17", "2.5(3)", "1e599", "1e-599")
			}
		}
		for i := range l {
			l[i].Value = api.Meas{Value: rat.Of(int64(r.Intn(5) - 2)), Sources: []api.Source{{Name: "s", By: rat.Of(7)}}}
		}
		if got, e, place := infer.Dims(h, other, l); !slices.Equal(got, dims) || e != why || place != at {
			t.Errorf("%s: %d at %d, then %d at %d", short(x), why, at, e, place)
		}
	}
}

// finished: a right tree that begins with the nodes up to one of another tree: what is left open is joined by products.
func finished(x api.Tree, last int, r *rand.Rand) api.Tree {
	nodes := slices.Clone(x.Nodes[:last+1])
	var open []int
	for i, n := range nodes {
		switch {
		case n.B >= 0:
			open = open[:len(open)-2]
		case n.A >= 0:
			open = open[:len(open)-1]
		}
		open = append(open, i)
	}
	for range r.Intn(3) {
		nodes = append(nodes, api.Node{Kind: api.NNeg, A: len(nodes) - 1, B: -1})
	}
	for k := len(open) - 2; k >= 0; k-- {
		nodes = append(nodes, api.Node{Kind: pick(r, api.NMul, api.NQuo, api.NAdd), A: open[k], B: len(nodes) - 1})
	}
	for range r.Intn(3) {
		nodes = append(nodes, api.Node{Kind: api.NName, Text: pick(r, "m", "foo", "s"), A: -1, B: -1})
		nodes = append(nodes, api.Node{Kind: pick(r, api.NMul, api.NSub), A: len(nodes) - 2, B: len(nodes) - 1})
	}
	return api.Tree{Nodes: nodes}
}

// P20.5.
func TestTheSameBeginningTheSameFault(t *testing.T) {
	r := rand.New(rand.NewSource(205))
	h := ownHouse(t)
	l := []api.Bound{bound("x", api.Dim{1})}
	found := 0
	for range 10000 {
		x, e, _ := syntax.Parse(grownWhole(r, false))
		if e != api.OK || isIn(x) || scaled(h, x, l) {
			continue
		}
		_, why, at := infer.Dims(h, x, l)
		if why == api.OK {
			continue
		}
		last := at
		if why == api.ErrDim { // told at B, at fault is the node behind it
			last++
		}
		y := finished(x, last, r)
		if e, place := syntax.Right(y); e != api.OK {
			t.Fatal(short(y), e, place)
		}
		found++
		if _, e, place := infer.Dims(h, y, l); e != why || place != at {
			t.Errorf("%s: %d at %d, then %d at %d", short(x), why, at, e, place)
		}
	}
	if found < 500 {
		t.Error("so few:", found)
	}
}

// P20.6.
func TestSumWithItself(t *testing.T) {
	r := rand.New(rand.NewSource(206))
	h := ownHouse(t)
	l := []api.Bound{bound("x", api.Dim{1}), bound("y", api.Dim{0, 0, 1}), bound("q", api.Dim{})}
	found := 0
	for range 10000 {
		text := grown(r, r.Intn(4), r.Intn(5), false)
		x, e, _ := syntax.Parse(text)
		if e != api.OK || scaled(h, x, l) {
			continue
		}
		dims, e, _ := infer.Dims(h, x, l)
		twice, more, _ := syntax.Parse("(" + text + ") + (" + text + ")")
		if e != api.OK || more != api.OK {
			continue
		}
		found++
		want := append(append(slices.Clone(dims), dims...), dims[len(dims)-1])
		if got, e, at := infer.Dims(h, twice, l); !slices.Equal(got, want) || e != api.OK {
			t.Errorf("%q and itself: %s, %d, %d", text, short(got), e, at)
		}
	}
	if found < 500 {
		t.Error("so few:", found)
	}
}

// P6: where dimensions go together, other numbers do, too; a product of what is refused is refused at the same place of its text.
func TestAtItsPlace(t *testing.T) {
	h := ownHouse(t)
	for text, at := range map[string]int{"5 km + 2 s": 7, "1e300 m + 1 s": 10, "2 * (5 km + 2 s)": 12, "(1 m) + (2 s) * 3": 8, "abs(1 - 1 m)": 8, "1 m in s": 7} {
		x := tree(t, text)
		_, e, node := infer.Dims(h, x, nil)
		if e != api.ErrDim || x.Nodes[node].At != at {
			t.Errorf("%q: %d at %d", text, e, x.Nodes[node].At)
		}
	}
}
