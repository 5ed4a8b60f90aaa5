package syntax_test

import (
	"fmt"
	"math/rand"
	"slices"
	"strings"
	"testing"

	"cubit/api"
	"cubit/lex"
	"cubit/syntax"
)

// short: a thing as text, but not all of it.
func short(v any) string { return fmt.Sprintf("%.400s", fmt.Sprintf("%+v", v)) }

// knot: a tree as the chapter draws it; from and to: its bytes, with the parentheses around it.
type knot struct {
	kind     int
	text     string
	a, b     *knot
	at, end  int
	from, to int
}

// laid: a knot's nodes in the order of reading: all of A, all of B, itself.
func laid(k *knot) []api.Node {
	var l []api.Node
	var lay func(*knot) int
	lay = func(k *knot) int {
		if k == nil {
			return -1
		}
		a := lay(k.a)
		b := lay(k.b)
		l = append(l, api.Node{Kind: k.kind, At: k.at, Len: k.end - k.at, Text: k.text, A: a, B: b})
		return len(l) - 1
	}
	lay(k)
	return l
}

func treeOf(k *knot) api.Tree { return api.Tree{Nodes: laid(k)} }

// A leaf, one with one kid, one with two.
func leaf(kind int, text string) *knot          { return &knot{kind: kind, text: text} }
func over(kind int, text string, a *knot) *knot { return &knot{kind: kind, text: text, a: a} }
func both(kind int, a, b *knot) *knot           { return &knot{kind: kind, a: a, b: b} }
func named(text string) *knot                   { return leaf(api.NName, text) }

func sameNodes(a, b api.Tree) bool         { return slices.Equal(a.Nodes, b.Nodes) }
func signIs(t api.Token, text string) bool { return t.Kind == api.TSign && t.Text == text }
func pick[T any](r *rand.Rand, l ...T) T   { return l[r.Intn(len(l))] }

func functionToken(t api.Token) bool {
	return t.Kind == api.TName && (t.Text == "sqrt" || t.Text == "abs")
}

func must(t testing.TB, text string) api.Tree {
	t.Helper()
	tree, e, at := syntax.Parse(text)
	if e != api.OK {
		t.Fatalf("Parse(%.200q): %d at %d", text, e, at)
	}
	return tree
}

// splits: the grammar's words, by all ways of cutting a run of tokens in two.
type splits struct {
	t      *testing.T
	tokens []api.Token
	known  map[[3]int]*knot
}

// The grammar's left sides.
const (
	aSum = iota
	aProduct
	aSigned
	aPower
	anAtom
	aUnits
	aRaised
	aPlain
)

// reading: the tree of tokens (without their end), or nil.
func reading(t *testing.T, tokens []api.Token) *knot {
	s := &splits{t, tokens, map[[3]int]*knot{}}
	all := []*knot{s.of(aSum, 0, len(tokens))}
	for k, token := range tokens {
		if signIs(token, "in") {
			all = append(all, s.two(api.NIn, s.of(aSum, 0, k), s.of(aUnits, k+1, len(tokens))))
		}
	}
	return s.only(all)
}

// only: the one reading that there is; a grammar with two would be none.
func (s *splits) only(l []*knot) *knot {
	l = slices.DeleteFunc(l, func(k *knot) bool { return k == nil })
	switch len(l) {
	case 0:
		return nil
	case 1:
		return l[0]
	}
	s.t.Fatal("two readings of", s.tokens)
	return nil
}

func (s *splits) two(kind int, a, b *knot) *knot {
	if a == nil || b == nil {
		return nil
	}
	return &knot{kind: kind, a: a, b: b, at: a.from, end: b.to, from: a.from, to: b.to}
}

func (s *splits) of(side, i, j int) *knot {
	if i >= j || i < 0 {
		return nil
	}
	key := [3]int{side, i, j}
	k, ok := s.known[key]
	if !ok {
		k = s.only(s.ways(side, i, j))
		s.known[key] = k
	}
	return k
}

// ways: all that the grammar lets a run of tokens be.
func (s *splits) ways(side, i, j int) []*knot {
	switch side {
	case aSum:
		l := []*knot{s.of(aProduct, i, j)}
		for k := i; k < j; k++ {
			if signIs(s.tokens[k], "+") {
				l = append(l, s.two(api.NAdd, s.of(aSum, i, k), s.of(aProduct, k+1, j)))
			}
			if signIs(s.tokens[k], "-") {
				l = append(l, s.two(api.NSub, s.of(aSum, i, k), s.of(aProduct, k+1, j)))
			}
		}
		return l
	case aProduct:
		return s.products(aProduct, aSigned, i, j)
	case aUnits:
		return s.products(aUnits, aRaised, i, j)
	case aSigned:
		l := []*knot{s.of(aPower, i, j)}
		if a := s.of(aSigned, i+1, j); signIs(s.tokens[i], "-") && a != nil {
			at := s.tokens[i].At
			l = append(l, &knot{kind: api.NNeg, a: a, at: at, end: a.to, from: at, to: a.to})
		}
		return l
	case aPower:
		return s.powers(anAtom, i, j)
	case aRaised:
		return s.powers(aPlain, i, j)
	}
	return s.atoms(side, i, j)
}

func (s *splits) products(side, part, i, j int) []*knot {
	l := []*knot{s.of(part, i, j)}
	for k := i + 1; k < j; k++ {
		t := s.tokens[k]
		if signIs(t, "*") {
			l = append(l, s.two(api.NMul, s.of(side, i, k), s.of(part, k+1, j)))
		}
		if signIs(t, "/") {
			l = append(l, s.two(api.NQuo, s.of(side, i, k), s.of(part, k+1, j)))
		}
		call := side == aProduct && signIs(t, "(") && functionToken(s.tokens[k-1])
		if (t.Kind == api.TName || signIs(t, "(")) && !call {
			l = append(l, s.two(api.NMul, s.of(side, i, k), s.of(part, k, j)))
		}
	}
	return l
}

func (s *splits) powers(part, i, j int) []*knot {
	l := []*knot{s.of(part, i, j)}
	if t := s.tokens[j-1]; t.Kind == api.TPower {
		if a := s.of(part, i, j-1); a != nil {
			end := t.At + t.Len
			l = append(l, &knot{kind: api.NPow, text: t.Text, a: a, at: a.from, end: end, from: a.from, to: end})
		}
	}
	return l
}

func (s *splits) atoms(side, i, j int) []*knot {
	var l []*knot
	t, last, within := s.tokens[i], s.tokens[j-1], aSum
	if side == aPlain {
		within = aUnits
	}
	if kind := map[int]int{api.TNumber: api.NNumber, api.TName: api.NName}[t.Kind]; j == i+1 && kind != 0 {
		l = append(l, &knot{kind: kind, text: t.Text, at: t.At, end: t.At + t.Len, from: t.At, to: t.At + t.Len})
	}
	if !signIs(last, ")") {
		return l
	}
	end := last.At + last.Len
	if a := s.of(within, i+1, j-1); signIs(t, "(") && a != nil {
		more := *a
		more.from, more.to = t.At, end
		l = append(l, &more)
	}
	if side == anAtom && functionToken(t) && j > i+2 && signIs(s.tokens[i+1], "(") {
		if a := s.of(aSum, i+2, j-1); a != nil {
			l = append(l, &knot{kind: api.NCall, text: t.Text, a: a, at: t.At, end: end, from: t.At, to: end})
		}
	}
	return l
}

// rules: the grammar once more, for looking ahead: each great letter is a left side, each word behind it one right side of it. n number, a name, f sqrt or abs, ^ a power, i in, , what stands nowhere.
func rules() map[byte][]string {
	return map[byte][]string{
		'W': {"S", "SiU"},
		'S': {"P", "S+P", "S-P"},
		'P': {"G", "P*G", "P/G", "PB"},
		'G': {"-G", "H"},
		'H': {"n", "n^", "B"},
		'B': {"C", "C^"}, // what may stand side by side
		'C': {"a", "f", "f(S)", "(S)"},
		'U': {"R", "U*R", "U/R", "UD"},
		'R': {"n", "n^", "D"},
		'D': {"E", "E^"},
		'E': {"a", "f", "(U)"},
	}
}

type item struct {
	left  byte
	right string
	dot   int
	since int
}

// ahead: what could go on, token by token (Earley's way): an empty last set: no whole does.
type ahead struct {
	rules map[byte][]string
	sets  [][]item
}

func newAhead() *ahead {
	a := &ahead{rules: rules()}
	var first []item
	for _, right := range a.rules['W'] {
		first = append(first, item{'W', right, 0, 0})
	}
	a.sets = [][]item{a.closure(first, 0)}
	return a
}

func (a *ahead) closure(l []item, at int) []item {
	add := func(i item) {
		if !slices.Contains(l, i) {
			l = append(l, i)
		}
	}
	for k := 0; k < len(l); k++ {
		i := l[k]
		if i.dot < len(i.right) {
			for _, right := range a.rules[i.right[i.dot]] {
				add(item{i.right[i.dot], right, 0, at})
			}
			continue
		}
		earlier := l
		if i.since < at {
			earlier = a.sets[i.since]
		}
		for _, j := range earlier {
			if j.dot < len(j.right) && j.right[j.dot] == i.left {
				add(item{j.left, j.right, j.dot + 1, j.since})
			}
		}
	}
	return l
}

// with: the same and one token more; false, if no whole goes on with it.
func (a *ahead) with(token byte) (*ahead, bool) {
	var l []item
	for _, i := range a.sets[len(a.sets)-1] {
		if i.dot < len(i.right) && i.right[i.dot] == token {
			l = append(l, item{i.left, i.right, i.dot + 1, i.since})
		}
	}
	b := &ahead{a.rules, append(slices.Clone(a.sets), nil)}
	b.sets[len(b.sets)-1] = b.closure(l, len(a.sets))
	return b, len(l) > 0
}

func (a *ahead) whole() bool {
	return slices.ContainsFunc(a.sets[len(a.sets)-1], func(i item) bool { return i.left == 'W' && i.dot == len(i.right) && i.since == 0 })
}

// class: a token as rules has it.
func class(t api.Token) byte {
	switch {
	case t.Kind == api.TNumber:
		return 'n'
	case functionToken(t):
		return 'f'
	case t.Kind == api.TName:
		return 'a'
	case t.Kind == api.TPower:
		return '^'
	case signIs(t, "in"):
		return 'i'
	}
	return t.Text[0]
}

// model: what Parse should say.
func model(t *testing.T, text string) (api.Tree, api.Errno, int) {
	tokens, e, at := lex.Scan(text)
	if e != api.OK {
		return api.Tree{}, e, at
	}
	a, ok := newAhead(), true
	end := tokens[len(tokens)-1]
	tokens = tokens[:len(tokens)-1]
	for _, token := range tokens {
		if a, ok = a.with(class(token)); !ok {
			return api.Tree{}, api.ErrSyntax, token.At
		}
	}
	k := reading(t, tokens)
	if a.whole() != (k != nil) {
		t.Fatalf("the two models are at odds about %q", text)
	}
	if k == nil {
		return api.Tree{}, api.ErrSyntax, end.At
	}
	return treeOf(k), api.OK, 0
}

func checkParse(t *testing.T, text string) {
	t.Helper()
	want, why, place := model(t, text)
	got, e, at := syntax.Parse(text)
	if !sameNodes(got, want) || e != why || at != place {
		t.Errorf("Parse(%.200q) = %s, %d, %d, not %s, %d, %d", text, short(got), e, at, short(want), why, place)
	}
}

// printing: what Print should say of a tree that can be, by the list of P19.3.
func printing(k *knot) string {
	sum := func(k *knot) bool { return k.kind == api.NAdd || k.kind == api.NSub }
	product := func(k *knot) bool { return k.kind == api.NMul || k.kind == api.NQuo }
	tight := func(k *knot) bool { return k.kind == api.NNeg || k.kind == api.NPow }
	inside := func(k *knot, round bool) string {
		if round {
			return "(" + printing(k) + ")"
		}
		return printing(k)
	}
	sign := map[int]string{api.NAdd: " + ", api.NSub: " - ", api.NMul: " * ", api.NQuo: " / ", api.NIn: " in "}[k.kind]
	switch k.kind {
	case api.NNeg:
		return "-" + inside(k.a, sum(k.a) || product(k.a))
	case api.NPow:
		return inside(k.a, sum(k.a) || product(k.a) || tight(k.a)) + "^" + k.text
	case api.NCall:
		return k.text + "(" + printing(k.a) + ")"
	case api.NAdd, api.NSub:
		return printing(k.a) + sign + inside(k.b, sum(k.b))
	case api.NMul, api.NQuo:
		return inside(k.a, sum(k.a)) + sign + inside(k.b, sum(k.b) || product(k.b))
	case api.NIn:
		return printing(k.a) + sign + printing(k.b)
	}
	return k.text
}

// grown: a tree of chance, of at most so many nodes; of units alone, if it is to stand behind in.
func grown(r *rand.Rand, most int, units bool) *knot {
	if most <= 1 || r.Intn(12) == 0 {
		if r.Intn(3) == 0 {
			return leaf(api.NNumber, pick(r, "0", "1", "2", "2(3)", "1.50(2)e-3", "007", "1e5", "12.5"))
		}
		return named(pick(r, "a", "b", "m", "km", "sqrt", "abs", "\u00b0C", "%", "'", "\u03bc", "x1", "e5", "E"))
	}
	switch n := r.Intn(10); {
	case n < 2 && !units:
		return over(api.NNeg, "", grown(r, most-1, units))
	case n < 4:
		return over(api.NPow, pick(r, "2", "-1", "0", "4096", "-4096", "10"), grown(r, most-1, units))
	case n < 5 && !units:
		return over(api.NCall, pick(r, "sqrt", "abs"), grown(r, most-1, units))
	}
	kind := pick(r, api.NMul, api.NQuo)
	if !units && r.Intn(2) == 0 {
		kind = pick(r, api.NAdd, api.NSub)
	}
	left := r.Intn(most)
	return both(kind, grown(r, left, units), grown(r, most-1-left, units))
}

// grownWhole: likewise, perhaps told in a unit.
func grownWhole(r *rand.Rand, most int) *knot {
	k := grown(r, most, false)
	if r.Intn(4) == 0 {
		k = both(api.NIn, k, grown(r, 1+most/3, true))
	}
	return k
}

// chance: a text of tokens, of which most go on.
func chance(r *rand.Rand, most int) string {
	var s strings.Builder
	a := newAhead()
	for range r.Intn(most + 1) {
		word := pick(r, "a", "b", "sqrt", "abs", "2", "3.5(1)", "+", "-", "*", "/", "(", "(", ")", ")", "in", "->", "^2", "\u00b2", "\u207b\u00b9", "\u00d7", "\u00f7", "\u2212", ",", "=", "km", "%")
		l, _, _ := lex.Scan(word)
		b, ok := a.with(class(l[0]))
		if !ok && r.Intn(12) > 0 {
			continue
		}
		a = b
		s.WriteString(word)
		s.WriteString(pick(r, " ", " ", "  ", "\t", "\n", " \r "))
	}
	return pick(r, "", " ") + s.String()
}
