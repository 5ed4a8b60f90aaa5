package syntax_test

import (
	"fmt"
	"math/rand"
	"strings"
	"sync"
	"testing"

	"cubit/api"
	"cubit/lex"
	"cubit/syntax"
)

// told: a tree in short: each node's kind, text, kids.
func told(t api.Tree) string {
	var l []string
	for _, n := range t.Nodes {
		word := strings.Fields("? number name neg add sub mul quo pow call in")[n.Kind]
		if n.Text != "" {
			word += ":" + n.Text
		}
		for _, kid := range []int{n.A, n.B} {
			if kid >= 0 {
				word += fmt.Sprint(" ", kid)
			}
		}
		l = append(l, word)
	}
	return strings.Join(l, ", ")
}

// P19.1: the chapter's examples, and what its words say of their like.
func TestTrees(t *testing.T) {
	for text, want := range map[string]string{
		"5 km/h":            "number:5, name:km, mul 0 1, name:h, quo 2 3",
		"-2^2":              "number:2, pow:2 0, neg 1",
		"2 + 3 in m":        "number:2, number:3, add 0 1, name:m, in 2 3",
		"2(3)":              "number:2(3)",
		"2 (3)":             "number:2, number:3, mul 0 1",
		"1/2 m":             "number:1, number:2, quo 0 1, name:m, mul 2 3",
		"2 -3":              "number:2, number:3, sub 0 1",
		"a - b - c":         "name:a, name:b, sub 0 1, name:c, sub 2 3",
		"a / b / c":         "name:a, name:b, quo 0 1, name:c, quo 2 3",
		"a - (b - c)":       "name:a, name:b, name:c, sub 1 2, sub 0 3",
		"((((a))))":         "name:a",
		"- - -a":            "name:a, neg 0, neg 1, neg 2",
		"-a b":              "name:a, neg 0, name:b, mul 1 2",
		"a * -b^2 c":        "name:a, name:b, pow:2 1, neg 2, mul 0 3, name:c, mul 4 5",
		"(-a)^-2":           "name:a, neg 0, pow:-2 1",
		"sqrt (a) b":        "name:a, call:sqrt 0, name:b, mul 1 2",
		"abs(-a)^2":         "name:a, neg 0, call:abs 1, pow:2 2",
		"sqrt":              "name:sqrt",
		"sqrt^2(a)":         "name:sqrt, pow:2 0, name:a, mul 1 2",
		"sqrt abs(a)":       "name:sqrt, name:a, call:abs 1, mul 0 2",
		"(sqrt)(a)":         "name:sqrt, name:a, mul 0 1",
		"sin(a)":            "name:sin, name:a, mul 0 1",
		"Sqrt(a)":           "name:Sqrt, name:a, mul 0 1",
		"a in sqrt(b)":      "name:a, name:sqrt, name:b, mul 1 2, in 0 3",
		"a in abs (b)^2":    "name:a, name:abs, name:b, pow:2 2, mul 1 3, in 0 4",
		"sqrt(abs(a)) in b": "name:a, call:abs 0, call:sqrt 1, name:b, in 2 3",
		"a -> 2 m/s\u00b2":  "name:a, number:2, name:m, mul 1 2, name:s, pow:2 4, quo 3 5, in 0 6",
		"a(b)c":             "name:a, name:b, mul 0 1, name:c, mul 2 3",
		"m\u00b2\u00b7s":    "name:m, pow:2 0, name:s, mul 1 2",
		"2^-0":              "number:2, pow:0 0",
		"\u00b5m":           "name:\u03bcm",
		"a+b c-d":           "name:a, name:b, name:c, mul 1 2, add 0 3, name:d, sub 4 5",
		"a--b":              "name:a, name:b, neg 1, sub 0 2",
		"2eV":               "number:2, name:eV, mul 0 1",
		"a \u2212 b":        "name:a, name:b, sub 0 1",
		"a in (b (c))":      "name:a, name:b, name:c, mul 1 2, in 0 3",
	} {
		if got := told(must(t, text)); got != want {
			t.Errorf("Parse(%q) = %s", text, got)
		}
		checkParse(t, text)
	}
}

// P19.1: the first token with which no whole goes on.
func TestFaults(t *testing.T) {
	for text, at := range map[string]int{
		"2 3": 2, "(1": 2, "in": 0, "": 0, "  ": 2, "a in (m + s)": 8, "a in m in s": 7,
		")": 0, "()": 1, "a)": 1, "(a": 2, "(a ": 3, "a 2": 2, "a -2 3": 5, "a,b": 1, "a = b": 2, ",": 0, "+a": 0, "a + + b": 4, "a + * b": 4, "a * / b": 4, "* a": 0, "/a": 0,
		"^2": 0, "a^2^3": 3, "a^2\u00b2": 3, "-^2": 1, "a + ^2": 4, "(^2)": 1, "a (^2": 3,
		"a +": 3, "a -": 3, "-": 1, "a *": 3, "a / ": 4, "sqrt(": 5, "sqrt()": 5, "sqrt(a": 6, "sqrt(a,b)": 6, "sqrt(a in b)": 7, "(a in b)": 3, "a + (b in c)": 7,
		"a in": 4, "a in -b": 5, "a in b - c": 7, "a in b + c": 7, "a in (b": 7, "a in b)": 6, "a in ()": 6, "a in (b in c)": 8, "a in b 2": 7, "a in 2 3": 7, "a in ^2": 5, "in in": 0, "a in (-b)": 6, "a in sqrt(-b)": 10, "a in sqrt(b+c)": 11, "a in b^2^3": 8,
		"((a)": 4, "(a))": 3, "a -> -> b": 5, "a+in": 2, "(a b": 4, "2 (3) 4": 6, "2(3)(4)5": 7, "a in b,": 6, "a in b =": 7,
	} {
		tree, e, place := syntax.Parse(text)
		if e != api.ErrSyntax || place != at || len(tree.Nodes) > 0 {
			t.Errorf("Parse(%q) = %s, %d, %d, not ErrSyntax at %d", text, short(tree), e, place, at)
		}
		checkParse(t, text)
	}
}

// P19.1: what Scan says goes ahead of all else.
func TestScanFirst(t *testing.T) {
	for text, want := range map[string][2]int{
		"1.": {180, 1}, ") a ^ 2": {180, 4}, "in 1e600": {7, 3}, "(((x^99999": {51, 4}, "+ " + strings.Repeat("y", 41): {4, 2}, "\xff": {180, 0},
		strings.Repeat(")", api.MaxText+1): {4, 0}, strings.Repeat(" ", api.MaxText+1): {4, 0}, strings.Repeat(")", api.MaxText): {190, 0}, strings.Repeat(" ", api.MaxText): {190, api.MaxText},
	} {
		tree, e, at := syntax.Parse(text)
		if int(e) != want[0] || at != want[1] || len(tree.Nodes) > 0 {
			t.Errorf("Parse(%.60q) = %d, %d", text, e, at)
		}
	}
}

// P19.1: all runs of up to so many tokens, as far as each goes on, and each token with which none does.
func TestAllShortRuns(t *testing.T) {
	words := map[byte]string{'n': "2", 'a': "x", 'f': "abs", '^': "^3", 'i': "in", '+': "+", '-': "-", '*': "*", '/': "/", '(': "(", ')': ")", ',': ",", '=': "="}
	seen := 0
	var from func(a *ahead, text string, left int)
	from = func(a *ahead, text string, left int) {
		seen++
		want := api.ErrSyntax
		if a.whole() {
			want = api.OK
		}
		if _, e, at := syntax.Parse(text); e != want || want != api.OK && at != len(text) {
			t.Fatalf("Parse(%q): %d at %d", text, e, at)
		}
		for c, word := range words {
			longer := text + " " + word
			b, ok := a.with(c)
			if !ok {
				if _, e, at := syntax.Parse(longer); e != api.ErrSyntax || at != len(text)+1 {
					t.Fatalf("Parse(%q): %d at %d", longer, e, at)
				}
				if _, e, at := syntax.Parse(longer + " x ) + in"); e != api.ErrSyntax || at != len(text)+1 {
					t.Fatalf("Parse(%q ..): %d at %d", longer, e, at)
				}
			} else if left > 0 {
				from(b, longer, left-1)
			}
		}
		if left == 0 || a.whole() && left <= 2 {
			checkParse(t, text)
		}
	}
	from(newAhead(), "", 5)
	if seen < 1000 {
		t.Error(seen)
	}
}

// P19.1: texts of chance against the model, places too.
func TestTextsOfChance(t *testing.T) {
	r := rand.New(rand.NewSource(191))
	whole := 0
	for range 20000 {
		text := chance(r, 14)
		checkParse(t, text)
		if _, e, _ := syntax.Parse(text); e == api.OK {
			whole++
		}
	}
	if whole < 2000 {
		t.Error("so few were read:", whole)
	}
}

// P19.6, and what belongs to a node: read alone, a node's bytes are its nodes.
func TestSpans(t *testing.T) {
	r := rand.New(rand.NewSource(196))
	for range 20000 {
		text := chance(r, 16)
		tree, e, _ := syntax.Parse(text)
		if e != api.OK {
			continue
		}
		for i, n := range tree.Nodes {
			end, ahead := n.At+n.Len, n.At
			if n.At < 0 || n.Len < 1 || end > len(text) {
				t.Fatalf("%q: node %d is at %d, %d", text, i, n.At, n.Len)
			}
			for _, kid := range []int{n.A, n.B} {
				if kid < 0 {
					continue
				}
				k := tree.Nodes[kid]
				if k.At < ahead || k.At+k.Len > end {
					t.Errorf("%q: node %d does not hold node %d", text, i, kid)
				}
				ahead = k.At + k.Len
			}
		}
	}
	for text, want := range map[string]string{
		" (a + b) * c ":          "a|b|a + b|c|(a + b) * c",
		"((a)) ^2":               "a|((a)) ^2",
		"((a))^2 ":               "a|((a))^2",
		" ( - ( a ) ) ":          "a|- ( a )",
		"sqrt ( (a) ) b":         "a|sqrt ( (a) )|b|sqrt ( (a) ) b",
		"(a b) in (m (s))":       "a|b|a b|m|s|m (s)|(a b) in (m (s))",
		"( (a) + (b) )":          "a|b|(a) + (b)",
		"(2 \u00b5m\u00b2) - -c": "2|\u00b5m|\u00b5m\u00b2|2 \u00b5m\u00b2|c|-c|(2 \u00b5m\u00b2) - -c",
		"((a)(b))^2^":            "",
	} {
		tree, _, _ := syntax.Parse(text)
		var l []string
		for _, n := range tree.Nodes {
			l = append(l, text[n.At:n.At+n.Len])
		}
		if got := strings.Join(l, "|"); got != want {
			t.Errorf("%q: %q", text, got)
		}
	}
}

// spaced: a text's tokens with blanks of chance between, where they may stand.
func spaced(r *rand.Rand, text string) string {
	l, _, _ := lex.Scan(text)
	var s strings.Builder
	end := 0
	for _, t := range l {
		s.WriteString(text[end:t.At])
		s.WriteString(pick(r, "", "", " ", "\t \n", "\r"))
		s.WriteString(text[t.At : t.At+t.Len])
		end = t.At + t.Len
	}
	return s.String() + pick(r, "", " ")
}

// P19.7.
func TestMoreParentheses(t *testing.T) {
	r := rand.New(rand.NewSource(197))
	for range 5000 {
		text := chance(r, 12)
		tree, e, _ := syntax.Parse(text)
		if e != api.OK {
			continue
		}
		if more, e, at := syntax.Parse(spaced(r, text)); e != api.OK || !syntax.Same(more, tree) {
			t.Fatalf("%q with more blanks: %d at %d", text, e, at)
		}
		n := 1 + r.Intn(3)
		more, e, at := syntax.Parse(strings.Repeat("(", n) + text + strings.Repeat(")", n))
		if tree.Nodes[len(tree.Nodes)-1].Kind == api.NIn {
			if e != api.ErrSyntax {
				t.Errorf("(%q): %d", text, e)
			}
			continue
		}
		if e != api.OK || !syntax.Same(more, tree) {
			t.Fatalf("%q in parentheses: %d at %d", text, e, at)
		}
		for i := range more.Nodes {
			more.Nodes[i].At -= n
		}
		if !sameNodes(more, tree) {
			t.Errorf("%q in parentheses has other places", text)
		}
	}
}

// balanced: a text of just so many nodes that is not deep.
func balanced(nodes int) string {
	switch nodes {
	case 1:
		return "a"
	case 2:
		return "-a"
	}
	left := (nodes - 1) / 2
	return "(" + balanced(left) + ")+(" + balanced(nodes-1-left) + ")"
}

// P19.1: too long, too deep, at the limit and beyond it.
func TestLimits(t *testing.T) {
	minus := func(n int) string { return strings.Repeat("-", n) + "a" }
	chain := func(n int) string { return strings.Repeat("a+", n) + "a" }
	round := func(n int, text string) string { return strings.Repeat("(", n) + text + strings.Repeat(")", n) }
	calls := func(n int) string { return strings.Repeat("abs(", n) + "a" + strings.Repeat(")", n) }
	for _, c := range []struct {
		text string
		why  api.Errno
		at   int
	}{
		{minus(99), api.OK, 0}, {minus(100), api.ErrDeep, 0}, {minus(8191), api.ErrDeep, 0}, {minus(8192), api.ErrSize, 0}, {minus(65535), api.ErrSize, 0},
		{chain(99), api.OK, 0}, {chain(100), api.ErrDeep, 0}, {chain(4095), api.ErrDeep, 0}, {chain(4096), api.ErrSize, 0}, {chain(32767), api.ErrSize, 0},
		{calls(99), api.OK, 0}, {calls(100), api.ErrDeep, 0},
		{"(" + chain(98) + ") in m", api.OK, 0}, {"(" + chain(99) + ") in m", api.ErrDeep, 0}, {chain(98) + " in m", api.OK, 0}, {chain(99) + " in m", api.ErrDeep, 0},
		{"m in " + strings.Repeat("a*", 98) + "a", api.OK, 0}, {"m in " + strings.Repeat("a*", 99) + "a", api.ErrDeep, 0},
		{minus(98) + "^2", api.OK, 0}, {minus(99) + "^2", api.ErrDeep, 0},
		{round(32767, "a"), api.OK, 0}, {round(32767, "-"), api.ErrSyntax, 32768}, {round(30000, balanced(3)), api.OK, 0},
		{strings.Repeat("(", 65536), api.ErrSyntax, 65536}, {strings.Repeat("(", 65535) + "a", api.ErrSyntax, 65536}, {strings.Repeat("-", 65536), api.ErrSyntax, 65536}, {strings.Repeat("abs(", 16384), api.ErrSyntax, 65536}, {"a in " + strings.Repeat("(", 65531), api.ErrSyntax, 65536},
		{minus(8192) + " )", api.ErrSyntax, 8194}, {minus(100) + " 1", api.ErrSyntax, 102}, {chain(4096) + "+", api.ErrSyntax, 8194},
		{balanced(8192), api.OK, 0}, {balanced(8193), api.ErrSize, 0}, {balanced(8191), api.OK, 0},
		{balanced(8190) + " in m", api.OK, 0}, {balanced(8191) + " in m", api.ErrSize, 0},
		{"(" + balanced(4095) + ")*(" + minus(99) + ")", api.ErrDeep, 0}, {"(" + balanced(4095) + ")*(" + minus(98) + ")", api.OK, 0}, {"(" + minus(99) + ")*(" + balanced(4095) + ")", api.ErrDeep, 0},
	} {
		tree, e, at := syntax.Parse(c.text)
		if e != c.why || at != c.at || (len(tree.Nodes) > 0) != (e == api.OK) {
			t.Errorf("Parse(%.40q ..%d) = %d, %d, not %d, %d", c.text, len(c.text), e, at, c.why, c.at)
		}
		if e != api.OK {
			continue
		}
		if why, at := syntax.Right(tree); why != api.OK {
			t.Errorf("Right of %.40q: %d at %d", c.text, why, at)
		}
	}
}

// What Parse reads is right, and it is new each time.
func TestParsedIsRightAndNew(t *testing.T) {
	r := rand.New(rand.NewSource(198))
	for range 3000 {
		text := printing(grownWhole(r, 1+r.Intn(30)))
		tree := must(t, text)
		if e, at := syntax.Right(tree); e != api.OK {
			t.Errorf("Right(Parse(%q)) = %d, %d", text, e, at)
		}
		other := must(t, text)
		other.Nodes[0].Text, other.Nodes[0].At = "changed", 99
		if !sameNodes(tree, must(t, text)) {
			t.Errorf("%q: answers share memory", text)
		}
	}
}

func TestManyAtOneTime(t *testing.T) {
	texts := []string{"5 km/h", "2 3", "sqrt(a", "-2^2 in m", strings.Repeat("(", 2000) + "a" + strings.Repeat(")", 2000)}
	want := []string{}
	tell := func(text string) string {
		tree, e, at := syntax.Parse(text)
		printed, why := syntax.Print(tree)
		return fmt.Sprint(told(tree), e, at, printed, why)
	}
	for _, text := range texts {
		want = append(want, tell(text))
	}
	var wait sync.WaitGroup
	for range 8 {
		wait.Go(func() {
			for range 50 {
				for i, text := range texts {
					if got := tell(text); got != want[i] {
						t.Errorf("%.60q: %s", text, got)
					}
				}
			}
		})
	}
	wait.Wait()
}
