package syntax_test

import (
	"math"
	"math/rand"
	"slices"
	"strings"
	"testing"
	"time"

	"cubit/api"
	"cubit/lex"
	"cubit/syntax"
)

// kidsOf: how many a kind has, and has it a text?
func kidsOf(kind int) (int, bool) {
	switch kind {
	case api.NNumber, api.NName:
		return 0, true
	case api.NPow, api.NCall:
		return 1, true
	case api.NNeg:
		return 1, false
	case api.NAdd, api.NSub, api.NMul, api.NQuo, api.NIn:
		return 2, false
	}
	return -1, false
}

// spelling: may a node of that kind have that text?
func spelling(kind int, text string) bool {
	switch kind {
	case api.NNumber:
		_, _, e := lex.Number(text)
		return e == api.OK
	case api.NName:
		l, e, _ := lex.Scan(text)
		return e == api.OK && len(l) == 2 && l[0].Kind == api.TName && l[0].Text == text
	case api.NPow:
		l, e, _ := lex.Scan("a^" + text)
		return e == api.OK && len(l) == 3 && l[0].Kind == api.TName && l[0].Text == "a" && l[1].Kind == api.TPower && l[1].Text == text
	case api.NCall:
		return text == "sqrt" || text == "abs"
	}
	return true
}

// belonging: of each node the numbers of all that belong to it, A's, B's, its own; nil, where it or one below is no number ahead of it.
func belonging(nodes []api.Node) [][]int {
	all := make([][]int, len(nodes))
	for i, n := range nodes {
		count, _ := kidsOf(n.Kind)
		if count < 0 {
			continue
		}
		var l []int
		ok := true
		for place, kid := range []int{n.A, n.B} {
			switch {
			case place >= count:
				ok = ok && kid == -1
			case kid < 0 || kid >= i || all[kid] == nil:
				ok = false
			default:
				l = append(l, all[kid]...)
			}
		}
		if ok {
			all[i] = append(l, i)
		}
	}
	return all
}

// standing: are these numbers in their order, up to i, one behind the other?
func standing(l []int, i int) bool {
	for k, n := range l {
		if n != i-len(l)+1+k {
			return false
		}
	}
	return len(l) > 0
}

// wayDown: the longest one from a node.
func wayDown(nodes []api.Node, i int) int {
	if i < 0 {
		return 0
	}
	return 1 + max(wayDown(nodes, nodes[i].A), wayDown(nodes, nodes[i].B))
}

// rightness: what Right should say.
func rightness(t api.Tree) (api.Errno, int) {
	nodes := t.Nodes
	if len(nodes) < 1 || len(nodes) > 8192 {
		return api.ErrSize, 0
	}
	all := belonging(nodes)
	for i, n := range nodes {
		_, texted := kidsOf(n.Kind)
		switch {
		case !standing(all[i], i) || !texted && n.Text != "":
			return api.ErrArg, i
		case !spelling(n.Kind, n.Text):
			return api.ErrForm, i
		case n.Kind == api.NIn && i != len(nodes)-1:
			return api.ErrSyntax, i
		}
	}
	end := len(nodes) - 1
	if nodes[end].Kind == api.NIn {
		for _, i := range all[nodes[end].B] {
			if !slices.Contains([]int{api.NName, api.NMul, api.NQuo, api.NPow, api.NNumber}, nodes[i].Kind) {
				return api.ErrSyntax, i
			}
		}
	}
	for i := range nodes {
		if wayDown(nodes, i) > 100 {
			return api.ErrDeep, i
		}
	}
	if len(all[end]) != len(nodes) {
		return api.ErrArg, end
	}
	return api.OK, 0
}

func checkRight(t *testing.T, tree api.Tree) api.Errno {
	t.Helper()
	given := slices.Clone(tree.Nodes)
	want, place := rightness(tree)
	if e, at := syntax.Right(tree); e != want || at != place {
		t.Errorf("Right(%s) = %d, %d, not %d, %d", short(tree), e, at, want, place)
	}
	if text, e := syntax.Print(tree); e != want || e != api.OK && text != "" {
		t.Errorf("Print(%s) = %.100q, %d, not %d", short(tree), text, e, want)
	}
	if !slices.Equal(given, tree.Nodes) {
		t.Error("what was given has changed")
	}
	return want
}

// P19.2: trees that can be, and the same with a node or two changed.
func TestRight(t *testing.T) {
	r := rand.New(rand.NewSource(192))
	seen := map[api.Errno]int{}
	for range 60000 {
		tree := treeOf(grownWhole(r, 1+r.Intn(14)))
		for range r.Intn(3) {
			harm(r, &tree)
		}
		seen[checkRight(t, tree)]++
	}
	for _, e := range []api.Errno{api.OK, api.ErrArg, api.ErrForm, api.ErrSyntax} {
		if seen[e] < 1000 {
			t.Error("so few of", e, seen[e])
		}
	}
}

// harm: something of a tree is changed.
func harm(r *rand.Rand, tree *api.Tree) {
	nodes := tree.Nodes
	if len(nodes) == 0 {
		return
	}
	n := &nodes[r.Intn(len(nodes))]
	switch r.Intn(9) {
	case 0:
		n.Kind = r.Intn(14) - 1
	case 1:
		n.A = r.Intn(len(nodes)+3) - 2
	case 2:
		n.B = r.Intn(len(nodes)+3) - 2
	case 3:
		n.Text = pick(r, "", "a", "1", "in", "sqrt", "2", "-0", "a b", "\u00b5", "1.", " 1", "4097", "x^2")
	case 4:
		n.At, n.Len = pick(r, math.MinInt, math.MaxInt, -1, 7), pick(r, math.MinInt, math.MaxInt, -1, 7)
	case 5:
		tree.Nodes = nodes[:r.Intn(len(nodes)+1)]
	case 6:
		tree.Nodes = append(slices.Clone(nodes), api.Node{Kind: api.NName, Text: "z", A: -1, B: -1})
	case 7:
		i, j := r.Intn(len(nodes)), r.Intn(len(nodes))
		nodes[i], nodes[j] = nodes[j], nodes[i]
	case 8:
		*n = api.Node{Kind: api.NIn, A: n.A, B: n.B}
	}
}

// P19.2: all lists of up to three nodes behind leaves, and some of four.
func TestAllSmallLists(t *testing.T) {
	r := rand.New(rand.NewSource(1921))
	var kinds []api.Node
	for kind := 0; kind <= 11; kind++ {
		text := map[int]string{api.NNumber: "1", api.NName: "a", api.NPow: "2", api.NCall: "abs"}[kind]
		for a := -2; a <= 3; a++ {
			for b := -2; b <= 3; b++ {
				kinds = append(kinds, api.Node{Kind: kind, Text: text, A: a, B: b})
			}
		}
	}
	leaves := []api.Node{{Kind: api.NName, Text: "a", A: -1, B: -1}, {Kind: api.NNumber, Text: "1", A: -1, B: -1}}
	for _, n := range kinds {
		checkRight(t, api.Tree{Nodes: []api.Node{n}})
		for _, first := range leaves {
			checkRight(t, api.Tree{Nodes: []api.Node{first, n}})
			for _, second := range leaves {
				checkRight(t, api.Tree{Nodes: []api.Node{first, second, n}})
				for _, last := range kinds {
					if r.Intn(4) == 0 {
						checkRight(t, api.Tree{Nodes: []api.Node{first, second, n, last}})
					}
				}
			}
		}
	}
}

// P19.2: what a text may be.
func TestTexts(t *testing.T) {
	long := strings.Repeat("0", api.MaxText)
	for _, c := range []struct {
		kind int
		text string
		want api.Errno
	}{
		{api.NNumber, "1", 0}, {api.NNumber, "007", 0}, {api.NNumber, "1.50(2)e-3", 0}, {api.NNumber, long, 0},
		{api.NNumber, "", 3}, {api.NNumber, "-1", 3}, {api.NNumber, "1/2", 3}, {api.NNumber, "1 ", 3}, {api.NNumber, "a", 3}, {api.NNumber, "1e600", 3}, {api.NNumber, "1m", 3}, {api.NNumber, long + "0", 3}, {api.NNumber, "\xff", 3},
		{api.NName, "a", 0}, {api.NName, "\u03bcm", 0}, {api.NName, "sqrt", 0}, {api.NName, "\u00b0C", 0}, {api.NName, "%", 0}, {api.NName, "In", 0}, {api.NName, strings.Repeat("x", 40), 0},
		{api.NName, "", 3}, {api.NName, "in", 3}, {api.NName, "->", 3}, {api.NName, "\u00b5m", 3}, {api.NName, "a b", 3}, {api.NName, " a", 3}, {api.NName, "a ", 3}, {api.NName, "1", 3}, {api.NName, "a^2", 3}, {api.NName, "m\u00b2", 3}, {api.NName, strings.Repeat("x", 41), 3}, {api.NName, "\xff", 3}, {api.NName, "a\xff", 3}, {api.NName, "+", 3}, {api.NName, strings.Repeat("a ", 40000), 3}, {api.NName, "%%", 3},
	} {
		if got := checkRight(t, api.Tree{Nodes: []api.Node{{Kind: c.kind, Text: c.text, A: -1, B: -1}}}); got != c.want {
			t.Errorf("%d %.60q: %d", c.kind, c.text, got)
		}
	}
	a := api.Node{Kind: api.NName, Text: "a", A: -1, B: -1}
	for text, want := range map[string]api.Errno{
		"2": 0, "-2": 0, "0": 0, "4096": 0, "-4096": 0, "100": 0,
		"": 3, "-0": 3, "+2": 3, "02": 3, "4097": 3, "-4097": 3, "2 ": 3, " 2": 3, "\u00b2": 3, "^2": 3, "2^2": 3, "2 b": 3, "x": 3, "-": 3, "99999999999999999999": 3, "\xff": 3, "2\n": 3,
	} {
		if got := checkRight(t, api.Tree{Nodes: []api.Node{a, {Kind: api.NPow, Text: text, A: 0, B: -1}}}); got != want {
			t.Errorf("power %q: %d", text, got)
		}
	}
	for text, want := range map[string]api.Errno{"sqrt": 0, "abs": 0, "": 3, "sin": 3, "Sqrt": 3, "sqrt ": 3, "sqrt(": 3, "in": 3} {
		if got := checkRight(t, api.Tree{Nodes: []api.Node{a, {Kind: api.NCall, Text: text, A: 0, B: -1}}}); got != want {
			t.Errorf("call %q: %d", text, got)
		}
	}
	for _, kind := range []int{api.NNeg, api.NAdd, api.NSub, api.NMul, api.NQuo, api.NIn} {
		nodes := []api.Node{a, a, {Kind: kind, Text: " ", A: 0, B: 1}}
		if kind == api.NNeg {
			nodes = []api.Node{a, {Kind: kind, Text: "-", A: 0, B: -1}}
		}
		if got := checkRight(t, api.Tree{Nodes: nodes}); got != api.ErrArg {
			t.Errorf("kind %d with a text: %d", kind, got)
		}
	}
}

// P19.2: which of several faults is told.
func TestWhichFault(t *testing.T) {
	name := func(text string) api.Node { return api.Node{Kind: api.NName, Text: text, A: -1, B: -1} }
	two := func(kind, a, b int) api.Node { return api.Node{Kind: kind, A: a, B: b} }
	one := func(kind int, text string, a int) api.Node { return api.Node{Kind: kind, Text: text, A: a, B: -1} }
	deep := []api.Node{name("a")}
	for i := range 100 {
		deep = append(deep, one(api.NNeg, "", i))
	}
	for _, c := range []struct {
		nodes []api.Node
		why   api.Errno
		at    int
	}{
		{nil, api.ErrSize, 0},
		{make([]api.Node, 8193), api.ErrSize, 0},
		{make([]api.Node, 8192), api.ErrArg, 0},
		{[]api.Node{name("in"), {Kind: 99}}, api.ErrForm, 0},
		{[]api.Node{{Kind: api.NName, Text: "in", A: 0, B: -1}}, api.ErrArg, 0},
		{[]api.Node{name("a"), name("b"), two(api.NIn, 0, 1), one(api.NNeg, "", 2)}, api.ErrSyntax, 2},
		{[]api.Node{name("a"), name("b"), {Kind: api.NIn, Text: "x", A: 0, B: 1}, one(api.NNeg, "", 2)}, api.ErrArg, 2},
		{[]api.Node{name("a"), name("b"), two(api.NIn, 0, 1), name("in")}, api.ErrSyntax, 2},
		{[]api.Node{name("a"), name("b"), one(api.NNeg, "", 1), two(api.NIn, 0, 2)}, api.ErrSyntax, 2},
		{[]api.Node{name("a"), name("b"), one(api.NCall, "abs", 1), one(api.NNeg, "", 2), two(api.NIn, 0, 3)}, api.ErrSyntax, 2},
		{[]api.Node{name("a"), one(api.NNeg, "", 0), name("b"), two(api.NIn, 1, 2)}, api.OK, 0},
		{[]api.Node{name("x"), name("a"), name("b"), one(api.NNeg, "", 2), two(api.NIn, 1, 3)}, api.ErrSyntax, 3},
		{[]api.Node{name("x"), name("a"), name("b"), two(api.NIn, 1, 2)}, api.ErrArg, 3},
		{[]api.Node{name("a"), name("b")}, api.ErrArg, 1},
		{[]api.Node{name("a"), name("b"), one(api.NNeg, "", 0)}, api.ErrArg, 2},
		{[]api.Node{name("a"), name("b"), two(api.NAdd, 1, 0)}, api.ErrArg, 2},
		{[]api.Node{name("a"), two(api.NAdd, 0, 0)}, api.ErrArg, 1},
		{[]api.Node{name("a"), name("b"), name("c"), two(api.NAdd, 0, 2)}, api.ErrArg, 3},
		{[]api.Node{name("a"), name("b"), two(api.NAdd, 0, 1), two(api.NAdd, 0, 2)}, api.ErrArg, 3},
		{[]api.Node{name("a"), one(api.NNeg, "", math.MinInt)}, api.ErrArg, 1},
		{[]api.Node{name("a"), two(api.NAdd, math.MaxInt, math.MinInt)}, api.ErrArg, 1},
		{[]api.Node{one(api.NNeg, "", -1)}, api.ErrArg, 0},
		{[]api.Node{two(api.NAdd, -1, -1)}, api.ErrArg, 0},
		{[]api.Node{name("a"), two(api.NAdd, -1, 0)}, api.ErrArg, 1},
		{deep, api.ErrDeep, 100},
		{deep[:100], api.OK, 0},
		{append(slices.Clone(deep), name("b")), api.ErrDeep, 100},
		{append(slices.Clone(deep), one(api.NNeg, "", 100)), api.ErrDeep, 100},
		{append(slices.Clone(deep), one(api.NNeg, "", 100), name("in")), api.ErrForm, 102},
		{append(slices.Clone(deep), name("b"), one(api.NNeg, "", 101), two(api.NIn, 100, 102)), api.ErrSyntax, 102},
		{append([]api.Node{name("a"), one(api.NNeg, "", 0)}, name("b")), api.ErrArg, 2},
	} {
		tree := api.Tree{Nodes: c.nodes}
		if e, at := syntax.Right(tree); e != c.why || at != c.at {
			t.Errorf("Right(%s) = %d, %d, not %d, %d", short(tree), e, at, c.why, c.at)
		}
		checkRight(t, tree)
	}
}

// P19.2: nothing behind a list's length is read.
func TestRoomIsNotRead(t *testing.T) {
	tree := must(t, "a + b")
	room := append(slices.Clone(tree.Nodes), api.Node{Kind: 77})
	if e, at := syntax.Right(api.Tree{Nodes: room[:3]}); e != api.OK || at != 0 {
		t.Error(e, at)
	}
	if e, at := syntax.Right(api.Tree{Nodes: room}); e != api.ErrArg || at != 3 {
		t.Error(e, at)
	}
}

// At the limits all ends soon.
func TestGreatTrees(t *testing.T) {
	begun := time.Now()
	var nodes []api.Node
	for range 8192 {
		nodes = append(nodes, api.Node{Kind: api.NNumber, Text: strings.Repeat("0", 20000), A: -1, B: -1})
	}
	if e, at := syntax.Right(api.Tree{Nodes: nodes}); e != api.ErrArg || at != 8191 {
		t.Error(e, at)
	}
	great := must(t, balanced(8191))
	for i := range great.Nodes {
		if great.Nodes[i].Kind == api.NName {
			great.Nodes[i].Kind, great.Nodes[i].Text = api.NNumber, strings.Repeat("0", 5000)+"1"
		}
	}
	text, e := syntax.Print(great)
	if e != api.OK || len(text) < 4096*5001 {
		t.Error(e, len(text))
	}
	if used := time.Since(begun); used > 20*time.Second {
		t.Error(used)
	}
}
