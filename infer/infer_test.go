package infer_test

import (
	"math/rand"
	"slices"
	"strings"
	"sync"
	"testing"
	"time"

	"cubit/api"
	"cubit/house"
	"cubit/infer"
	"cubit/rat"
	"cubit/syntax"
)

// P20.1: the chapter's examples, and what its words say of their like.
func TestDim(t *testing.T) {
	h := ownHouse(t)
	l := []api.Bound{bound("x", api.Dim{1}), bound("x", api.Dim{2}), bound("km", api.Dim{0, 0, 1}), bound("light", api.Dim{0, 1}), bound("\u00b0F", api.Dim{0, 0, 0, 0, 1}), bound("most", api.Dim{99}), bound("least", api.Dim{-99})}
	for text, want := range map[string]api.Dim{
		"5": {}, "x": {1}, "x + 1 m": {1}, "km": {0, 0, 1}, "1 s - km": {0, 0, 1}, "light": {0, 1}, "x km": {1, 0, 1}, "x in km": {1}, "kilometre + x": {1},
		"20 \u00b0C": {0, 0, 0, 0, 1}, "-20 \u00b0C": {0, 0, 0, 0, 1}, "(-20) \u00b0C": {0, 0, 0, 0, 1}, "20 \u00b0C in \u00b0F": {0, 0, 0, 0, 1}, "20 * degC - 5 K": {0, 0, 0, 0, 1}, "5 K + (-2.0(1) \u00b0C)": {0, 0, 0, 0, 1}, "20 K in \u00b0C": {0, 0, 0, 0, 1},
		"\u00b0F^2": {0, 0, 0, 0, 2}, "sqrt(4 \u00b0F^2)": {0, 0, 0, 0, 1}, "abs(20 \u00b0C - 5 K)": {0, 0, 0, 0, 1}, "2 (20 \u00b0C - 5 K)": {0, 0, 0, 0, 1},
		"most / (x^98)": {1}, "most^1": {99}, "most^-1": {-99}, "least^0": {}, "most least": {}, "2^4096": {}, "(x/x)^-4096": {},
		"sqrt(x^2)": {1}, "sqrt(x^-4)": {-2}, "sqrt(2)": {}, "abs(-x)": {1}, "rgas": {2, 1, -2, 0, -1, -1}, "5 x in 3 m / 2": {1},
	} {
		x := tree(t, text)
		if d, e, at := infer.Dim(h, x, l); d != want || e != api.OK || at != 0 {
			t.Errorf("Dim(%q) = %v, %d, %d, not %v", text, d, e, at, want)
		}
		checkDims(t, h, x, l)
	}
	if d, _, _ := infer.Dim(h, tree(t, "light * 1 s"), nil); d != (api.Dim{1}) {
		t.Error(d)
	}
	if d, _, _ := infer.Dim(h, tree(t, "5 km / (2 s)"), nil); d != (api.Dim{1, 0, -1}) {
		t.Error(d)
	}
}

// P20.1, P6: the first node to blame, and why.
func TestFaults(t *testing.T) {
	h := ownHouse(t)
	l := []api.Bound{bound("x", api.Dim{1}), bound("most", api.Dim{99}), bound("least", api.Dim{-99}), bound("var", api.Dim{})}
	for text, want := range map[string][2]int{
		"5 km + 2 s": {50, 5}, "foo": {201, 0}, "2 * 20 \u00b0C": {120, 3}, "1 m in s": {50, 3}, "sqrt(4 m)": {10, 3},
		"5 km - 2 s": {50, 5}, "x + 1": {50, 1}, "1 + x": {50, 1}, "x + (x + 1) + s": {50, 2}, "1 m + 1 m in s": {50, 7}, "1 s in m + 0 in": {-1, 0},
		"m + foo": {201, 1}, "foo + bar": {201, 0}, "m + s + foo": {50, 1}, "(m + foo) + s": {201, 1},
		"\u00b0C": {120, 0}, "\u00b0C 20": {-1, 0}, "-\u00b0C": {120, 0}, "-(20 \u00b0C)": {120, 1}, "20 \u00b0C / 2": {120, 1}, "(20 \u00b0C) * 2": {120, 1}, "2 (20 \u00b0C)": {120, 2}, "20 / \u00b0C": {120, 1}, "\u00b0C * 20": {120, 0}, "\u00b0C + 20 \u00b0C": {120, 0}, "20 \u00b0C + \u00b0C": {120, 3}, "abs(20 \u00b0C)": {120, 1}, "(20 \u00b0C)^2": {120, 1}, "20 \u00b0C^2": {120, 1}, "20 \u00b0C^1": {120, 1}, "(--20) \u00b0C": {120, 3}, "abs(20) \u00b0C": {120, 2}, "var \u00b0C": {120, 1}, "20 m \u00b0C": {120, 3},
		"20 \u00b0C in 2 \u00b0F": {120, 4}, "20 \u00b0C in \u00b0F^1": {120, 3}, "20 K in \u00b0F / 1": {120, 3}, "\u00b0C in \u00b0F": {120, 0}, "2 (20 \u00b0C) in K": {120, 2},
		"x in light": {200, 1}, "x in foo": {200, 1}, "foo in foo": {201, 0}, "x in x": {200, 1}, "x in m x": {200, 2}, "1 in var": {200, 1}, "1 in light / light": {200, 1}, "1 in m / light": {200, 2}, "x in x^1": {200, 1}, "x in (m x) / m": {200, 2}, "x in x m": {200, 1},
		"x^100": {51, 1}, "x^99 x": {51, 3}, "x^50 x^50": {51, 4}, "most x": {51, 2}, "most / least": {51, 2}, "least^-2": {51, 1}, "least / x": {51, 2}, "x^-4096": {51, 1}, "x in m^100": {51, 2}, "x^99 x + s": {51, 3},
		"sqrt(x)": {10, 1}, "sqrt(x^3) + s": {10, 2}, "s + sqrt(x)": {10, 2}, "sqrt(most)": {10, 1}, "sqrt(x + s)": {50, 1}, "abs(foo)": {201, 0},
		"1e300 m + 1 s": {50, 5}, "1/0 + s": {50, 3}, "sqrt(-1) + s": {50, 3}, "0^-1 m + s": {50, 4},
	} {
		x, e, _ := syntax.Parse(text)
		if want[0] < 0 { // it is no expression
			if e == api.OK {
				t.Errorf("%q is read", text)
			}
			continue
		}
		if e != api.OK {
			t.Fatal(text, e)
		}
		if d, e, at := infer.Dims(h, x, l); int(e) != want[0] || at != want[1] || len(d) > 0 {
			t.Errorf("Dims(%q) = %v, %d, %d, not %v", text, d, e, at, want)
		}
		checkDims(t, h, x, l)
	}
}

// P20.1: words with more than one reading, too large, of constants with all kinds of units.
func TestOddWords(t *testing.T) {
	h := oddHouse(t)
	l := []api.Bound{bound("dam", api.Dim{7}), bound("hbig", api.Dim{8}), bound("C", api.Dim{9})}
	for text, want := range map[string][2]int{"dam": {71, 0}, "hbig": {7, 0}, "m + dam": {71, 1}, "m in dam": {71, 1}, "m in hbig": {7, 1}, "m in c": {200, 1}, "C": {120, 0}, "centigrade": {120, 0}, "z": {0, 0}, "2 z z": {0, 0}, "c": {0, 0}, "one": {0, 0}, "t": {0, 0}, "re": {0, 0}, "w": {0, 0}, "re m^10": {51, 3}, "c s + t": {50, 3}} {
		if _, e, at := infer.Dims(h, tree(t, text), nil); int(e) != want[0] || at != want[1] {
			t.Errorf("Dims(%q) = %d, %d", text, e, at)
		}
		checkDims(t, h, tree(t, text), nil)
	}
	for text, want := range map[string]api.Dim{"dam": {7}, "hbig": {8}, "C": {9}, "C^2": {18}, "c": {1, 0, -1}, "one": {}, "t": {98}, "re": {90}, "w": {0, 0, 0, 0, 1}, "z": {0, 0, 0, 0, 1}, "2 centigrade in C": {0, 0, 0, 0, 1}} {
		if d, e, at := infer.Dim(h, tree(t, text), l); d != want || e != api.OK {
			t.Errorf("Dim(%q) = %v, %d, %d", text, d, e, at)
		}
		checkDims(t, h, tree(t, text), l)
	}
	for text, want := range map[string][2]int{"m in dam": {71, 1}, "m in hbig": {7, 1}} {
		if _, e, at := infer.Dims(h, tree(t, text), l); int(e) != want[0] || at != want[1] {
			t.Errorf("Dims(%q) with variables = %d, %d", text, e, at)
		}
	}
}

// P20.1: what is not given as it should be, and which is told first.
func TestWrongArguments(t *testing.T) {
	h := ownHouse(t)
	x, foo := tree(t, "m"), tree(t, "foo")
	wrong := api.Tree{Nodes: []api.Node{{Kind: api.NName, Text: "m", A: -1, B: -1}, {Kind: api.NName, Text: "in", A: -1, B: -1}}}
	notRight := []api.Bound{{Name: "a"}, {Name: "a", Value: api.Meas{Value: api.Rat{Num: "2", Den: "4"}}}, {Name: "a", Value: api.Meas{Value: rat.Of(1)}, Dim: api.Dim{100}}, {Name: "a", Value: api.Meas{Value: rat.Of(1)}, Dim: api.Dim{7: -100}}, {Name: "a", Value: api.Meas{Value: rat.Of(1), Sources: []api.Source{{Name: "", By: rat.Of(1)}}}}, {Name: "a", Value: api.Meas{Value: rat.Of(1), Sources: []api.Source{{Name: "s", By: rat.Of(0)}}}}}
	check := func(h *house.House, x api.Tree, l []api.Bound, why api.Errno, place int) {
		t.Helper()
		if dims, e, at := infer.Dims(h, x, l); e != why || at != place || len(dims) > 0 {
			t.Errorf("Dims: %s, %d, %d", short(dims), e, at)
		}
		if d, e, at := infer.Dim(h, x, l); e != why || at != place || d != (api.Dim{}) {
			t.Errorf("Dim: %v, %d, %d", d, e, at)
		}
	}
	for _, v := range notRight {
		l := []api.Bound{bound("b", api.Dim{}), v}
		check(h, x, l, api.ErrArg, 0)
		check(h, foo, l, api.ErrArg, 0)
		check(h, wrong, l, api.ErrForm, 1)
		check(nil, wrong, l, api.ErrNil, 0)
		check(h, api.Tree{}, l, api.ErrSize, 0)
		check(h, x, append([]api.Bound{v}, l...), api.ErrArg, 0)
	}
	check(nil, x, nil, api.ErrNil, 0)
	check(h, api.Tree{}, nil, api.ErrSize, 0)
	check(h, wrong, nil, api.ErrForm, 1)
	for _, name := range []string{"", "in", "\xff", "a b", strings.Repeat("x", 100)} { // a variable's name may be anything
		if _, e, _ := infer.Dims(h, x, []api.Bound{bound(name, api.Dim{})}); e != api.OK {
			t.Errorf("%q: %d", name, e)
		}
	}
	room := []api.Bound{bound("b", api.Dim{}), notRight[0]}
	if _, e, _ := infer.Dims(h, x, room[:1]); e != api.OK {
		t.Error("what lies behind the list is read")
	}
}

// P20.1: expressions of chance against the model, in both houses.
func TestDims(t *testing.T) {
	r := rand.New(rand.NewSource(201))
	l := []api.Bound{bound("x", api.Dim{1}), bound("y", api.Dim{0, 0, 1}), bound("q", api.Dim{}), bound("x", api.Dim{5})}
	for _, odd := range []bool{false, true} {
		h := ownHouse(t)
		if odd {
			h = oddHouse(t)
		}
		seen := map[api.Errno]int{}
		for range 15000 {
			text := grownWhole(r, odd)
			x, e, at := syntax.Parse(text)
			if e == api.ErrSyntax || e == api.ErrDeep {
				continue
			}
			if e != api.OK {
				t.Fatal(text, e, at)
			}
			_, e = checkDims(t, h, x, l[:r.Intn(5)])
			seen[e]++
		}
		want := []api.Errno{api.OK, api.ErrDim, api.ErrName, api.ErrUnit, api.ErrExp, api.ErrRoot, api.ErrAffine}
		if odd {
			want = append(want, api.ErrMixed, api.ErrLarge)
		}
		for _, e := range want {
			if seen[e] < 20 {
				t.Error("so few of", e, seen)
			}
		}
	}
}

// P20.3.
func TestPower(t *testing.T) {
	for n := -5000; n <= 5000; n++ {
		text := rat.Of(int64(n)).Num
		want, why := n, api.OK
		if n < -4096 || n > 4096 {
			want, why = 0, api.ErrExp
		}
		if got, e := infer.Power(text); got != want || e != why {
			t.Errorf("Power(%q) = %d, %d", text, got, e)
		}
		for _, wrong := range []string{"0" + text, "+" + text, text + " ", " " + text, "--" + text, text + "x", text + ".0", "-0" + strings.TrimPrefix(text, "-")} {
			if got, e := infer.Power(wrong); got != 0 || e != api.ErrForm {
				t.Errorf("Power(%q) = %d, %d", wrong, got, e)
			}
		}
	}
	for text, want := range map[string]api.Errno{"": 3, "-": 3, "-0": 3, "00": 3, "-01": 3, "+1": 3, "1e3": 3, "\u00b2": 3, "\u0661": 3, "\xff": 3, "1_0": 3, "0x1": 3, "1-": 3, "1-1": 3, "\x00": 3, "1\n": 3, "5000": 51, "99999999999999999999": 51, "-99999999999999999999": 51, "9223372036854775808": 51, "0": 0} {
		if got, e := infer.Power(text); got != 0 || e != want {
			t.Errorf("Power(%q) = %d, %d", text, got, e)
		}
	}
	long := strings.Repeat("9", 1<<20)
	if _, e := infer.Power(long); e != api.ErrExp {
		t.Error(e)
	}
	if _, e := infer.Power("-" + long + "x"); e != api.ErrForm {
		t.Error(e)
	}
	if _, e := infer.Power("0" + long); e != api.ErrForm {
		t.Error(e)
	}
}

// What is answered is new, what was given stays.
func TestAnswersAreNew(t *testing.T) {
	h := ownHouse(t)
	x, l := tree(t, "x + 5 km in m"), []api.Bound{bound("x", api.Dim{1})}
	nodes := slices.Clone(x.Nodes)
	first, _, _ := infer.Dims(h, x, l)
	first[0] = api.Dim{77}
	second, _, _ := infer.Dims(h, x, l)
	if second[0] != (api.Dim{1}) || !slices.Equal(nodes, x.Nodes) || l[0].Dim != (api.Dim{1}) || cap(second) > 0 && len(second) != 7 {
		t.Error(second)
	}
}

func TestManyAtOneTime(t *testing.T) {
	h := ownHouse(t)
	l := []api.Bound{bound("x", api.Dim{1})}
	texts := []string{"5 km / (2 s)", "5 km + 2 s", "foo", "20 \u00b0C in \u00b0F", "x + 1 m", "sqrt(x)"}
	tell := func(text string) string {
		x, _, _ := syntax.Parse(text)
		dims, e, at := infer.Dims(h, x, l)
		u, why, place := infer.Unit(h, x)
		return short([]any{dims, e, at, u, why, place})
	}
	var want []string
	for _, text := range texts {
		want = append(want, tell(text))
	}
	var wait sync.WaitGroup
	for range 8 {
		wait.Go(func() {
			for range 100 {
				for i, text := range texts {
					if got := tell(text); got != want[i] {
						t.Errorf("%q: %s", text, got)
					}
				}
			}
		})
	}
	wait.Wait()
}

// balanced: a text of just so many names that is not deep.
func balanced(names int, word, sign string) string {
	if names == 1 {
		return word
	}
	return "(" + balanced(names/2, word, sign) + ")" + sign + "(" + balanced(names-names/2, word, sign) + ")"
}

// At the limits all ends soon.
func TestGreatTrees(t *testing.T) {
	begun := time.Now()
	h := ownHouse(t)
	var l []api.Bound
	for i := range 50000 {
		l = append(l, bound(strings.Repeat("v", 1+i%40)+rat.Of(int64(i)).Num, api.Dim{}))
	}
	l = append(l, bound("a", api.Dim{1}))
	if d, e, at := infer.Dim(h, tree(t, balanced(4096, "a", "+")), l); d != (api.Dim{1}) || e != api.OK {
		t.Error(d, e, at)
	}
	if d, e, at := infer.Dim(h, tree(t, balanced(4096, "km", "+")), l); d != (api.Dim{1}) || e != api.OK {
		t.Error(d, e, at)
	}
	if _, e, at := infer.Dims(h, tree(t, balanced(4095, "km", "+")+"+s"), l); e != api.ErrDim || at != 8189 {
		t.Error(e, at)
	}
	if u, e, at := infer.Unit(h, tree(t, "("+balanced(2048, "km", "*")+")/("+balanced(2048, "km", "*")+")")); e != api.ErrExp {
		t.Error(short(u), e, at)
	}
	if u, e, at := infer.Unit(h, tree(t, balanced(2000, "(rad/3)", "/"))); e != api.OK || u.Dim != (api.Dim{}) {
		t.Error(short(u), e, at)
	}
	nines := strings.Repeat("9", 600)
	if _, e, at := infer.Unit(h, tree(t, nines+"^4096")); e != api.ErrLarge || at != 1 {
		t.Error(e, at)
	}
	if _, e, _ := infer.Unit(h, tree(t, balanced(2000, "(7/3)", "*"))); e != api.ErrLarge {
		t.Error(e)
	}
	if used := time.Since(begun); used > 20*time.Second {
		t.Error(used)
	}
}
