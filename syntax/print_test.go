package syntax_test

import (
	"math/rand"
	"testing"

	"cubit/api"
	"cubit/syntax"
)

// P19.3: the chapter's examples, and each place of the list.
func TestPrint(t *testing.T) {
	for text, want := range map[string]string{
		"((a)-(b-c))*d": "(a - (b - c)) * d", "a/(b c)": "a / (b * c)", "(-a)^2 (-b)": "(-a)^2 * -b", "-2^2": "-2^2", "2+3 in m": "2 + 3 in m", "sqrt (a)": "sqrt(a)",
		"5 km/h": "5 * km / h", "a+(b+c)": "a + (b + c)", "(a+b)+c": "a + b + c", "(a-b)*c": "(a - b) * c", "c/(a+b)": "c / (a + b)", "-(a+b)": "-(a + b)", "(a+b)^2": "(a + b)^2",
		"a(b/c)": "a * (b / c)", "(a b)/c": "a * b / c", "-(a b)": "-(a * b)", "(a/b)^-1": "(a / b)^-1", "(a^2)^3": "(a^2)^3", "a\u00b2": "a^2", "--a": "--a", "a - (-b)": "a - -b", "a + -b": "a + -b", "(-a) b": "-a * b", "-(a^2)": "-a^2", "abs(a+b)^2": "abs(a + b)^2", "sqrt((a))": "sqrt(a)", "(a+b) in (m (s))^2": "a + b in (m * s)^2", "a -> m/(s kg)": "a in m / (s * kg)", "a in m^2": "a in m^2", "(sqrt)(a)": "sqrt * a", "a in sqrt(b)": "a in sqrt * b", "2(3)^2": "2(3)^2", "a - (b c)": "a - b * c", "a (b - c)": "a * (b - c)", "-(-a)^2": "-(-a)^2", "\u00b5m": "\u03bcm", "a (-b)^2": "a * (-b)^2", "a/-b": "a / -b",
	} {
		if got, e := syntax.Print(must(t, text)); e != api.OK || got != want {
			t.Errorf("Print(Parse(%q)) = %q, %d", text, got, e)
		}
	}
}

// checkPrint: P19.3 and P19.5 of one tree.
func checkPrint(t *testing.T, k *knot) {
	t.Helper()
	tree, want := treeOf(k), printing(k)
	text, e := syntax.Print(tree)
	if e != api.OK || text != want {
		t.Errorf("Print(%s) = %q, %d, not %q", short(tree), text, e, want)
	}
	back, e, at := syntax.Parse(text)
	if e != api.OK || !syntax.Same(back, tree) {
		t.Errorf("Parse(%q) = %s, %d, %d", text, short(back), e, at)
	}
	if again, e := syntax.Print(back); e != api.OK || again != text {
		t.Errorf("%q is printed again as %q, %d", text, again, e)
	}
}

// P19.3, P19.5, and P7 of trees.
func TestThereAndBack(t *testing.T) {
	r := rand.New(rand.NewSource(195))
	for range 20000 {
		checkPrint(t, grownWhole(r, 1+r.Intn(40)))
	}
}

// all: all trees of so many nodes, over few leaves.
func all(nodes int, units bool) []*knot {
	if nodes == 1 {
		return []*knot{named("a"), leaf(api.NNumber, "2(1)")}
	}
	var l []*knot
	for _, a := range all(nodes-1, units) {
		l = append(l, over(api.NPow, "-3", a))
		if !units {
			l = append(l, over(api.NNeg, "", a), over(api.NCall, "abs", a))
		}
	}
	for left := 1; left < nodes-1; left++ {
		for _, a := range all(left, units) {
			for _, b := range all(nodes-1-left, units) {
				l = append(l, both(api.NMul, a, b), both(api.NQuo, a, b))
				if !units {
					l = append(l, both(api.NAdd, a, b), both(api.NSub, a, b))
				}
			}
		}
	}
	return l
}

// P19.3, P19.5: all small trees, and those told in a unit.
func TestAllSmallTrees(t *testing.T) {
	for nodes := 1; nodes <= 7; nodes++ {
		for _, k := range all(nodes, false) {
			checkPrint(t, k)
		}
		for _, k := range all(nodes, true) {
			checkPrint(t, both(api.NIn, named("x"), k))
			checkPrint(t, both(api.NIn, over(api.NNeg, "", named("x")), k))
		}
	}
}

// without: a text without the parenthesis at a place and the one that closes it.
func without(text string, at int) string {
	open := 0
	for i := at; i < len(text); i++ {
		switch text[i] {
		case '(':
			open++
		case ')':
			if open--; open == 0 {
				return text[:at] + text[at+1:i] + text[i+1:]
			}
		}
	}
	return text
}

// P19.3: no parentheses are there without need.
func TestNoParenthesesWithoutNeed(t *testing.T) {
	r := rand.New(rand.NewSource(193))
	for range 5000 {
		k := grownWhole(r, 1+r.Intn(20))
		tree, text := treeOf(k), printing(k)
		for at := range len(text) {
			if text[at] != '(' || at > 0 && text[at-1] >= '0' && text[at-1] <= '9' { // those of a number belong to it
				continue
			}
			if less, e, _ := syntax.Parse(without(text, at)); e == api.OK && syntax.Same(less, tree) {
				t.Errorf("%q reads the same without the parentheses at %d", text, at)
			}
		}
	}
}
