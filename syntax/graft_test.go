package syntax_test

import (
	"math"
	"math/rand"
	"slices"
	"strings"
	"testing"

	"cubit/api"
	"cubit/syntax"
)

// P19.4: of trees that are not right, too.
func TestNames(t *testing.T) {
	for text, want := range map[string]string{"5 km/h": "h km", "a b a c b": "a b c", "1 + 2": "", "sqrt(sqrt)": "sqrt", "b in a": "a b", "B a A b \u03bc \u00b0C %": "% A B a b \u00b0C \u03bc", "a2 a a10 ab": "a a10 a2 ab"} {
		if got := syntax.Names(must(t, text)); !slices.Equal(got, strings.Fields(want)) {
			t.Errorf("Names of %q: %q", text, got)
		}
	}
	wrong := api.Tree{Nodes: []api.Node{{Kind: api.NName, Text: "z", A: 99, B: -7}, {Kind: api.NName}, {Kind: api.NNumber, Text: "n"}, {Kind: 77, Text: "m"}, {Kind: api.NName, Text: "\xff"}, {Kind: api.NName, Text: "in"}, {Kind: api.NName, Text: "z"}, {Kind: api.NCall, Text: "sqrt"}}}
	given := slices.Clone(wrong.Nodes)
	if got := syntax.Names(wrong); !slices.Equal(got, []string{"", "in", "z", "\xff"}) {
		t.Errorf("%q", got)
	}
	if !slices.Equal(given, wrong.Nodes) {
		t.Error("what was given has changed")
	}
	if len(syntax.Names(api.Tree{})) > 0 {
		t.Error("names of nothing")
	}
	great := api.Tree{}
	for range 100000 {
		great.Nodes = append(great.Nodes, api.Node{Kind: api.NName, Text: "a"})
	}
	if got := syntax.Names(great); !slices.Equal(got, []string{"a"}) {
		t.Error(len(got))
	}
}

// P19.4.
func TestSame(t *testing.T) {
	first := api.Node{Kind: api.NName, Text: "a", A: -1, B: -1}
	lists := [][]api.Node{nil, {first}, {first, first}}
	for _, change := range []func(*api.Node){func(n *api.Node) { n.Kind = 7 }, func(n *api.Node) { n.Text = "b" }, func(n *api.Node) { n.A = 0 }, func(n *api.Node) { n.B = math.MinInt }} {
		other := first
		change(&other)
		lists = append(lists, []api.Node{other}, []api.Node{first, other})
	}
	for i, a := range lists {
		for j, b := range lists {
			if syntax.Same(api.Tree{Nodes: a}, api.Tree{Nodes: b}) != (i == j) {
				t.Errorf("Same(%s, %s) is not %v", short(a), short(b), i == j)
			}
		}
	}
	placed := first
	placed.At, placed.Len = 5, -7
	if !syntax.Same(api.Tree{Nodes: []api.Node{first}}, api.Tree{Nodes: []api.Node{placed}}) || !syntax.Same(api.Tree{}, api.Tree{Nodes: []api.Node{}}) {
		t.Error("places play a part")
	}
}

// replaced: a knot with another one in the place of each name.
func replaced(k *knot, name string, by *knot) *knot {
	if k == nil {
		return nil
	}
	if k.kind == api.NName && k.text == name {
		return by
	}
	other := *k
	other.a, other.b = replaced(k.a, name, by), replaced(k.b, name, by)
	return &other
}

// marked: places of chance for all its nodes, from a number on.
func marked(k *knot, next *int) {
	if k != nil {
		*next++
		k.at, k.end = *next, *next+*next*7%5
		marked(k.a, next)
		marked(k.b, next)
	}
}

// P19.4, P19.8.
func TestGraft(t *testing.T) {
	r := rand.New(rand.NewSource(194))
	grafts := 0
	for range 20000 {
		k, by, name := grownWhole(r, 1+r.Intn(15)), grownWhole(r, 1+r.Intn(8)), pick(r, "a", "b", "m", "sqrt", "zz", "")
		places := 0
		marked(k, &places)
		marked(by, &places)
		want, why := api.Tree{}, api.OK
		if by.kind == api.NIn || k.kind == api.NIn && slices.Contains(syntax.Names(treeOf(k.b)), name) {
			why = api.ErrSyntax
		} else {
			want = treeOf(replaced(k, name, by))
		}
		tree, other := treeOf(k), treeOf(by)
		got, e := syntax.Graft(tree, name, other)
		if !sameNodes(got, want) || e != why {
			t.Fatalf("Graft(%s, %q, %s) = %s, %d, not %s, %d", short(tree), name, short(other), short(got), e, short(want), why)
		}
		if !sameNodes(tree, treeOf(k)) || !sameNodes(other, treeOf(by)) {
			t.Fatal("what was given has changed")
		}
		if e == api.OK {
			grafts++
			checkGrafted(t, tree, name, other, got)
		}
	}
	if grafts < 5000 {
		t.Error("so few:", grafts)
	}
}

// checkGrafted: P19.8, that a graft is right, and new.
func checkGrafted(t *testing.T, tree api.Tree, name string, by, got api.Tree) {
	t.Helper()
	if e, at := syntax.Right(got); e != api.OK {
		t.Errorf("Right(%s) = %d, %d", short(got), e, at)
	}
	names := syntax.Names(tree)
	if slices.Contains(names, name) {
		names = slices.DeleteFunc(names, func(s string) bool { return s == name })
		names = append(names, syntax.Names(by)...)
	}
	slices.Sort(names)
	if names = slices.Compact(names); !slices.Equal(syntax.Names(got), names) {
		t.Errorf("names of the graft: %q, not %q", syntax.Names(got), names)
	}
	itself := api.Tree{Nodes: []api.Node{{Kind: api.NName, Text: "q", A: -1, B: -1}}}
	if same, e := syntax.Graft(got, "q", itself); e != api.OK || !syntax.Same(same, got) {
		t.Errorf("a name by itself: %s, %d", short(same), e)
	}
	given := slices.Clone(by.Nodes)
	for i := range got.Nodes {
		got.Nodes[i] = api.Node{}
	}
	if !slices.Equal(given, by.Nodes) {
		t.Error("it shares memory")
	}
}

// P19.4: the errors, and which goes first.
func TestGraftErrors(t *testing.T) {
	a, wrong, empty := must(t, "a"), api.Tree{Nodes: []api.Node{{Kind: api.NName, Text: "in", A: -1, B: -1}}}, api.Tree{}
	in, unit := must(t, "x in y"), must(t, "a b in a c")
	minus := func(n int) api.Tree { return must(t, strings.Repeat("-", n)+"a") }
	for i, c := range []struct {
		tree api.Tree
		name string
		by   api.Tree
		want api.Errno
	}{
		{wrong, "a", empty, api.ErrForm}, {empty, "a", wrong, api.ErrSize}, {a, "a", wrong, api.ErrForm}, {a, "zz", empty, api.ErrSize}, {unit, "a", wrong, api.ErrForm},
		{a, "a", in, api.ErrSyntax}, {a, "zz", in, api.ErrSyntax}, {unit, "a", a, api.ErrSyntax}, {unit, "c", a, api.ErrSyntax}, {unit, "b", a, api.OK}, {in, "x", a, api.OK}, {in, "y", a, api.ErrSyntax}, {must(t, "2 in y"), "x", a, api.OK},
		{minus(99), "a", must(t, "b"), api.OK}, {minus(98), "a", minus(1), api.OK}, {minus(99), "a", minus(1), api.ErrDeep}, {minus(50), "a", minus(49), api.OK}, {minus(50), "a", minus(50), api.ErrDeep}, {minus(99), "b", minus(99), api.OK},
		{must(t, balanced(8191)), "a", must(t, "b"), api.OK}, {must(t, balanced(8191)), "a", must(t, "-b"), api.ErrSize}, {must(t, balanced(8191)), "a", must(t, balanced(8192)), api.ErrSize}, {must(t, balanced(4095)), "a", must(t, "b^2"), api.OK}, {must(t, balanced(4095)), "a", must(t, "-b^2"), api.OK}, {must(t, balanced(4095)), "a", must(t, "--b^2"), api.ErrSize},
		{must(t, "("+balanced(4096)+")("+balanced(4095)+")"), "a", minus(99), api.ErrSize}, {must(t, "b+"+balanced(8189)), "b", must(t, "c"), api.OK}, {must(t, "b ("+balanced(8188)+")"), "b", minus(2), api.OK}, {must(t, "b ("+balanced(8188)+")"), "b", minus(3), api.ErrSize}, {must(t, "b + a"), "b", minus(99), api.ErrDeep}, {must(t, "b + a"), "b", minus(98), api.OK},
	} {
		got, e := syntax.Graft(c.tree, c.name, c.by)
		if e != c.want || (len(got.Nodes) > 0) != (e == api.OK) {
			t.Errorf("%d: Graft = %s, %d, not %d", i, short(got), e, c.want)
		}
	}
	got, _ := syntax.Graft(must(t, "5 km/h"), "km", must(t, "1 + 2"))
	if text, e := syntax.Print(got); e != api.OK || text != "5 * (1 + 2) / h" {
		t.Error(text, e)
	}
}
