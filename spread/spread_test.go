package spread_test

import (
	"math/rand"
	"slices"
	"strconv"
	"strings"
	"sync"
	"testing"
	"time"

	"cubit/api"
	"cubit/house"
	"cubit/rat"
	"cubit/spread"
	"cubit/syntax"
)

// P23.1: the chapter's examples, the document's, and their like, in the own house.
func TestExamples(t *testing.T) {
	h := ownHouse(t)
	l := []api.Bound{{Name: "x", Value: meas("2", "a", "1/10"), Dim: api.Dim{1}}, {Name: "y", Value: meas("3", "a", "1", "b", "1/5"), Dim: api.Dim{1}}, {Name: "n", Value: meas("0", "c", "2")}, {Name: "neg", Value: meas("-4", "c", "2")}, {Name: "x", Value: meas("7")}}
	for text, want := range map[string]api.Meas{
		"1.00(1) m + 2.00(2) m": meas("3", "#0", "1/100", "#3", "1/50"), "x - x": meas("0"), "melec": meas("91093837015e-41", "electron", "28e-41"), "electron": meas("91093837015e-41", "electron", "28e-41"), "light": meas("299792458"),
		"x": meas("2", "a", "1/10"), "x + y": meas("5", "a", "11/10", "b", "1/5"), "x - y": meas("-1", "a", "-9/10", "b", "-1/5"), "x y": meas("6", "a", "23/10", "b", "2/5"), "x / y": meas("2/3", "a", "-17/90", "b", "-2/45"), "-x": meas("-2", "a", "-1/10"), "x^3": meas("8", "a", "6/5"), "x^0": meas("1"), "x^-1": meas("1/2", "a", "-1/40"), "x / x": meas("1"),
		"5(2) - 5(2)": meas("0", "#0", "2", "#1", "-2"), "1.5(2)": meas("3/2", "#0", "1/5"), "5(0)": meas("5"), "-1.5(2)": meas("-3/2", "#0", "-1/5"), "12(3)e2": meas("1200", "#0", "300"), "km": meas("1000"), "2.00(1) km": meas("2000", "#0", "10"),
		"20.0(5) \u00b0C": meas("5863/20", "#0", "1/2"), "-68.0(9) \u00b0F": meas("39167/180", "#0", "-1/2"), "20.0(5) \u00b0C - 10(1) \u00b0C": meas("10", "#0", "1/2", "#3", "-1"), "20 \u00b0C in \u00b0F": meas("5863/20"),
		"sqrt(4.0(4))": meas("2", "#0", "1/10"), "sqrt(x^2)": meas("2", "a", "1/10"), "sqrt(0)": meas("0"), "sqrt(n - n)": meas("0"), "sqrt(2.25)": meas("3/2"), "sqrt(n^2)": meas("0"), "abs(neg)": meas("4", "c", "-2"), "abs(n)": meas("0", "c", "2"), "abs(x)": meas("2", "a", "1/10"), "abs(-x)": meas("2", "a", "1/10"), "n^1": meas("0", "c", "2"), "n^2": meas("0"), "n^0": meas("1"), "n * n": meas("0"), "neg n": meas("0", "c", "-8"),
		"x in km": meas("2", "a", "1/10"), "1.0(1) m in 2.0(1) m": meas("1", "#0", "1/10"), "x in x": {}, "2 electron / electron": meas("2"), "electron^2 / melec": meas("91093837015e-41", "electron", "28e-41"), "0 x": meas("0"), "0 / x": meas("0"), "n / x": meas("0", "c", "1"),
	} {
		x := tree(t, text)
		checkAll(t, h, x, l)
		if want.Value == (api.Rat{}) {
			continue
		}
		if v, e, at := spread.Eval(h, x, l); !sameMeas(v.Value, want) || e != api.OK || at != 0 {
			t.Errorf("Eval(%q) = %s, %d, %d", text, short(v), e, at)
		}
	}
	steps, e, at := spread.Steps(h, tree(t, "-20(1) \u00b0C + x in 2(1) K"), []api.Bound{{Name: "x", Value: meas("1", "#7", "3"), Dim: api.Dim{0, 0, 0, 0, 1}}})
	warm := api.Dim{0, 0, 0, 0, 1}
	want := []api.Spreads{{Value: meas("20", "#0", "1")}, {Value: meas("-20", "#0", "-1")}, {Value: meas("1"), Dim: warm}, {Value: meas("5063/20", "#0", "-1"), Dim: warm}, {Value: meas("1", "#7", "3"), Dim: warm}, {Value: meas("5083/20", "#0", "-1", "#7", "3"), Dim: warm}, {Value: meas("2", "#6", "1")}, {Value: meas("1"), Dim: warm}, {Value: meas("2", "#6", "1"), Dim: warm}, {Value: meas("5083/20", "#0", "-1", "#7", "3"), Dim: warm}}
	if !slices.EqualFunc(steps, want, same) || e != api.OK || at != 0 {
		t.Error(short(steps), e, at)
	}
}

type fault struct {
	why api.Errno
	at  int
}

// summed: so many uncertain numbers, one behind the other.
func summed(n int) string { return strings.Repeat("1(1)+", n-1) + "1(1)" }

// P23.1, P6: the first node that comes to no value; dimensions go ahead of numbers.
func TestFaults(t *testing.T) {
	h := ownHouse(t)
	l := []api.Bound{{Name: "n", Value: meas("0", "c", "2")}, {Name: "all", Value: many("a", 64)}, {Name: "rest", Value: many("b", 64)}, {Name: "half", Value: many("a", 32)}}
	for text, want := range map[string]fault{
		"sqrt(2)": {210, 1}, "sqrt(2(1))": {210, 1}, "sqrt(-1)": {210, 2}, "sqrt(-4(1))": {210, 2}, "sqrt(n)": {8, 1}, "sqrt(0(1))": {8, 1}, "sqrt(n - 1)": {210, 3}, "sqrt(n + n)": {8, 3}, "1/n": {8, 2}, "n / (2(1) - 2)": {8, 4}, "n^-1": {8, 1}, "n/0": {8, 2}, "0^-4096": {8, 1},
		"1 m + 1 s": {50, 5}, "1(1) m + 1/0 s": {50, 7}, "sqrt(n) m + 1 s": {50, 6}, "1e300 m + 1 s": {50, 5}, "foo": {201, 0}, "1/0 + foo": {201, 3}, "1 m in x": {200, 3}, "2 * 20(1) \u00b0C": {120, 3}, "sqrt(n) m in s": {50, 4}, summed(65) + "+ 1 m": {50, 131},
		"10^600": {7, 1}, "1e599 * 10": {7, 2}, "0(1)e599 * 10": {7, 2}, "10 * 0(1)e599": {7, 2}, "0(1)e599 + 0(1)e599": {0, 0}, "n * 1e599 * 10": {7, 4}, "n / 1e-599": {0, 0}, "n / 1e-599 / 0.2": {7, 4}, "(0(9)e599 - 1)^2 + (0(9)e599)": {7, 3}, "(1e300)^2": {7, 1}, "(1(1)e200)^3": {7, 1}, "(2(1)e299)^2": {0, 0}, "(5(9)e298)^2": {0, 0}, "(1(9)e299)^2": {0, 0}, "(1(99)e299)^2": {7, 1}, "sqrt(1e-598 + 0(1)e599)": {7, 3}, "sqrt(1(2)e-598)": {0, 0}, "1e-599 / 10": {7, 2},
		summed(64): {0, 0}, summed(65): {40, 128}, summed(66): {40, 128}, "(" + summed(64) + ") - 1(1)": {40, 128}, "(" + summed(64) + ") * 1(1)": {40, 128}, "0 * (" + summed(65) + ")": {40, 129}, "all + rest": {40, 2}, "all + all": {0, 0}, "all - all + rest": {0, 0}, "all rest": {40, 2}, "all / rest": {40, 2}, "half + (rest - rest)": {0, 0}, "half * rest": {40, 2}, "all + 1(1)": {40, 2}, "half + 1(1)": {0, 0}, "all * 1e599 + rest * 1e599": {40, 6}, "all * 1e599 - rest * 9e599": {40, 6}, "rest * 5e599 + all * 5e599": {7, 6}, "all + 1(1)e599 - rest": {40, 2},
		"1 m in m/0": {8, 5}, "1 in 0(1)^-1": {8, 2}, "1 in 1e300 * 1e300": {7, 3}, "1 m in 0 m": {0, 0},
	} {
		x := tree(t, text)
		checkAll(t, h, x, l)
		if v, e, at := spread.Eval(h, x, l); (fault{e, at}) != want || e != api.OK && !same(v, api.Spreads{}) {
			t.Errorf("Eval(%.200q) = %s, %d, %d, not %v", text, short(v), e, at, want)
		}
	}
}

// many: 1, with n sources by 1, whose names begin with a text.
func many(name string, n int) api.Meas {
	m := meas("1")
	for i := range n {
		m.Sources = append(m.Sources, api.Source{Name: name + strconv.Itoa(1000+i), By: rat.Of(1)})
	}
	return m
}

// P23.1: what a name stands for, of which sources constants are, and numbers that are large on the way alone.
func TestNames(t *testing.T) {
	h := oddHouse(t)
	l := []api.Bound{{Name: "C", Value: meas("7", "u", "1"), Dim: api.Dim{9}}, {Name: "C", Value: meas("8")}, {Name: "m", Value: meas("5", "v", "1/2")}, {Name: "neg", Value: meas("1", "minus", "1")}}
	for text, want := range map[string]api.Meas{"C": meas("7", "u", "1"), "2 C": meas("14", "u", "2"), "m": meas("5", "v", "1/2"), "m + 1 in 1": meas("6", "v", "1/2"), "neg": meas("1", "minus", "1"), "minus - neg": meas("-9/4", "minus", "-5/8"), "meter": meas("1")} {
		x := tree(t, text)
		checkAll(t, h, x, l)
		if v, e, at := spread.Eval(h, x, l); !sameMeas(v.Value, want) || e != api.OK {
			t.Errorf("Eval(%q) = %s, %d, %d", text, short(v), e, at)
		}
	}
	for text, want := range map[string]api.Meas{
		"neg": meas("-5/4", "minus", "3/8"), "minus": meas("-5/4", "minus", "3/8"), "al": meas("3500", "@2", "1000/3"), greek: meas("3500", "@2", "1000/3"), "nil": meas("0", "nought", "1"), "one": meas("7", "bare", "2"), "lo": meas("5", long, "1/7"), long: meas("5", long, "1/7"), "fa": meas("3", "@8", "1/9"), "pro": meas("6", "%", "1/5"), "%": meas("6", "%", "1/5"), "c": meas("299792458"), "ro": meas("1e300", "round", "2e300"), "ev": meas("2", "even", "1"), "al / " + greek: meas("1"), "fa - " + mixed: meas("0"),
		"1(2) C": meas("5483/20", "#0", "2"), "-1(7) o": meas("-169/35", "#0", "-3"), "2(1) z": meas("4", "#0", "2"), "9.5(0)e299 b": meas("5e598"), "9.5(1)e299 b": meas("5e598", "#0", "1e598"),
	} {
		x := tree(t, text)
		checkAll(t, h, x, nil)
		if v, e, at := spread.Eval(h, x, nil); !sameMeas(v.Value, want) || e != api.OK || at != 0 {
			t.Errorf("Eval(%q) = %s, %d, %d", text, short(v), e, at)
		}
	}
	for text, want := range map[string]fault{"mu": {7, 0}, "wi": {7, 0}, "1 + wi / m^2": {7, 1}, "0 mu": {7, 1}, "wi - wi": {7, 0}, "1e301 b": {7, 2}, "1(1)e300 b": {7, 2}, "9.5(100)e299 b": {7, 2}, "wi + 1": {50, 1}, "big big": {7, 2}} {
		x := tree(t, text)
		checkAll(t, h, x, nil)
		if _, e, at := spread.Eval(h, x, nil); (fault{e, at}) != want {
			t.Errorf("Eval(%q): %d, %d", text, e, at)
		}
	}
}

// P23.1, P5: expressions of chance against the model, in both houses.
func TestSteps(t *testing.T) {
	r := rand.New(rand.NewSource(231))
	for _, odd := range []bool{false, true} {
		h := ownHouse(t)
		if odd {
			h = oddHouse(t)
		}
		seen := map[api.Errno]int{}
		for range 8000 {
			text := grownWhole(r, odd)
			x, e, at := syntax.Parse(text)
			if e == api.ErrDeep || e == api.ErrSyntax {
				continue
			}
			if e != api.OK {
				t.Fatal(text, e, at)
			}
			seen[checkAll(t, h, x, variables()[:r.Intn(8)])]++
		}
		for _, e := range []api.Errno{api.OK, api.ErrDim, api.ErrName, api.ErrUnit, api.ErrAffine, api.ErrZero, api.ErrLarge, api.ErrDomain} {
			if seen[e] < 10 {
				t.Error("so few of", e, seen)
			}
		}
		if seen[api.OK] < 2500 {
			t.Error("so few that come to a value:", seen)
		}
	}
}

// P23.1: what is not given as it should be, and which is told first.
func TestWrongArguments(t *testing.T) {
	h := ownHouse(t)
	x := tree(t, "1/0")
	wrong := api.Tree{Nodes: []api.Node{{Kind: api.NName, Text: "m", A: -1, B: -1}, {Kind: api.NName, Text: "in", A: -1, B: -1}}}
	notRight := []api.Bound{{Name: "a"}, {Name: "a", Value: api.Meas{Value: api.Rat{Num: "2", Den: "4"}}}, {Name: "a", Value: meas("1"), Dim: api.Dim{100}}, {Name: "a", Value: meas("1", "", "1")}, {Name: "a", Value: meas("1", "s", "0")}, {Name: "a", Value: meas("1", "b", "1", "a", "1")}, {Name: "a", Value: many("s", 65)}}
	check := func(h *house.House, x api.Tree, l []api.Bound, want fault) {
		t.Helper()
		if steps, e, at := spread.Steps(h, x, l); (fault{e, at}) != want || len(steps) > 0 {
			t.Errorf("Steps: %s, %d, %d", short(steps), e, at)
		}
		if v, e, at := spread.Eval(h, x, l); (fault{e, at}) != want || !same(v, api.Spreads{}) {
			t.Errorf("Eval: %s, %d, %d", short(v), e, at)
		}
	}
	for _, v := range notRight {
		check(h, x, []api.Bound{v}, fault{api.ErrArg, 0})
		check(h, wrong, []api.Bound{v}, fault{api.ErrForm, 1})
		check(nil, wrong, []api.Bound{v}, fault{api.ErrNil, 0})
		check(h, api.Tree{}, []api.Bound{v}, fault{api.ErrSize, 0})
	}
	check(nil, x, nil, fault{api.ErrNil, 0})
	check(h, x, nil, fault{api.ErrZero, 2})
	check(h, api.Tree{}, nil, fault{api.ErrSize, 0})
	check(h, api.Tree{Nodes: []api.Node{{Kind: 11, A: -1, B: -1}}}, nil, fault{api.ErrArg, 0})
	check(h, api.Tree{Nodes: []api.Node{{Kind: api.NNumber, Text: "1e600", A: -1, B: -1}}}, nil, fault{api.ErrForm, 0})
	room := []api.Bound{{Name: "b", Value: meas("1")}, notRight[0]}
	if _, e, _ := spread.Eval(h, tree(t, "b"), room[:1]); e != api.OK {
		t.Error("what lies behind the list is read")
	}
}

// What is answered is new, what was given stays; no two lists of one answer share any memory.
func TestAnswersAreNew(t *testing.T) {
	h := ownHouse(t)
	sources := append(make([]api.Source, 0, 8), api.Source{Name: "a", By: rat.Of(1)}, api.Source{Name: "b", By: rat.Of(2)})
	x, l := tree(t, "abs(x) + x * 1 in m"), []api.Bound{{Name: "x", Value: api.Meas{Value: rat.Of(3), Sources: sources}, Dim: api.Dim{1}}}
	nodes := slices.Clone(x.Nodes)
	want, _, _ := model(h, x, l)
	steps, e, _ := spread.Steps(h, x, l)
	if e != api.OK {
		t.Fatal(e)
	}
	for i := range steps {
		list := steps[i].Value.Sources
		for k := range list {
			list[k] = api.Source{Name: "gone"}
		}
		_ = append(list, api.Source{Name: "gone"}, api.Source{Name: "gone"})
		steps[i].Value.Value = api.Rat{}
		for k := i + 1; k < len(steps); k++ {
			if !same(steps[k], want[k]) {
				t.Fatalf("node %d shares with node %d: %s", k, i, short(steps[k]))
			}
		}
	}
	first, _, _ := spread.Eval(h, x, l)
	first.Value.Sources[0].Name = "gone"
	second, _, _ := spread.Eval(h, x, l)
	again, _, _ := spread.Steps(h, x, l)
	if !same(second, want[len(want)-1]) || !slices.EqualFunc(again, want, same) || !slices.Equal(nodes, x.Nodes) {
		t.Error(short(second), short(again))
	}
	if spare := sources[:4]; spare[2] != (api.Source{}) || spare[3] != (api.Source{}) || spare[0].Name != "a" || spare[1].By != rat.Of(2) {
		t.Error("what was given is changed:", spare)
	}
	budget, _ := spread.Budget(l[0].Value)
	budget[0].Name, budget[1].Name = "gone", "gone"
	if other, _ := spread.Budget(l[0].Value); other[0].Name != "b" || sources[0].Name != "a" || sources[1].Name != "b" {
		t.Error(other, sources)
	}
}

func TestManyAtOneTime(t *testing.T) {
	h := ownHouse(t)
	l := variables()
	texts := []string{"72.0(1) km/h in m/s", "5 km + 2 s", "foo", "20.0(1) \u00b0C in \u00b0F", "x + 1(1) m", "sqrt(2)", "electron * light^2", summed(65)}
	tell := func(text string) string {
		x, _, _ := syntax.Parse(text)
		steps, e, at := spread.Steps(h, x, l)
		v, why, place := spread.Eval(h, x, l)
		budget, no := spread.Budget(v.Value)
		return short([]any{v, why, place, budget, no, e, at, steps})
	}
	var want []string
	for _, text := range texts {
		want = append(want, tell(text))
	}
	var wait sync.WaitGroup
	for range 8 {
		wait.Go(func() {
			for range 30 {
				for i, text := range texts {
					if got := tell(text); got != want[i] {
						t.Errorf("%q: %s", text, got)
					}
				}
			}
		})
	}
	wait.Wait()
}

// balanced: a text of just so many parts that is not deep.
func balanced(parts int, word, sign string) string {
	if parts == 1 {
		return word
	}
	return "(" + balanced(parts/2, word, sign) + ")" + sign + "(" + balanced(parts-parts/2, word, sign) + ")"
}

// great: a value with 64 sources, whose numbers are of about so many digits above and below; all have one Den, or each its own.
func great(r *rand.Rand, digits int, one bool) api.Meas {
	den := greatNumber(r, digits)
	fraction := func() api.Rat {
		if !one {
			den = greatNumber(r, digits)
		}
		v, e := rat.New(greatNumber(r, digits), den)
		if e != api.OK {
			panic("no fraction")
		}
		return v
	}
	m := api.Meas{Value: fraction()}
	for i := range 64 {
		m.Sources = append(m.Sources, api.Source{Name: "s" + strconv.Itoa(100+i), By: fraction()})
	}
	return m
}

func greatNumber(r *rand.Rand, digits int) string {
	b := []byte{byte('1' + r.Intn(9))}
	for len(b) < digits {
		b = append(b, byte('0'+r.Intn(10)))
	}
	return string(b)
}

// At the limits all ends soon.
func TestGreatTrees(t *testing.T) {
	begun := time.Now()
	h, r := ownHouse(t), rand.New(rand.NewSource(239))
	l := []api.Bound{{Name: "a", Value: great(r, 590, true)}, {Name: "o", Value: great(r, 600, false)}, {Name: "u", Value: meas("1", "u", "1")}}
	v, e, at := spread.Eval(h, tree(t, balanced(512, "a", "+")), l)
	times, _ := rat.Mul(l[0].Value.Sources[63].By, rat.Of(512))
	if e != api.OK || len(v.Value.Sources) != 64 || v.Value.Sources[63].By != times {
		t.Error(short(v), e, at)
	}
	if v, e, at := spread.Eval(h, tree(t, balanced(500, "(o/o)", "*")), l); !sameMeas(v.Value, meas("1")) || e != api.OK {
		t.Error(short(v), e, at)
	}
	if v, e, at := spread.Eval(h, tree(t, balanced(4096, "u", "+")), l); !sameMeas(v.Value, meas("4096", "u", "4096")) || e != api.OK {
		t.Error(short(v), e, at)
	}
	if steps, e, at := spread.Steps(h, tree(t, balanced(4096, "electron", "+")), l); len(steps) != 8191 || e != api.OK {
		t.Error(len(steps), e, at)
	}
	if steps, e, at := spread.Steps(h, tree(t, balanced(4096, "1(1)", "+")), l); len(steps) != 0 || e != api.ErrSource {
		t.Error(len(steps), e, at)
	}
	if _, e, at := spread.Eval(h, tree(t, "o^4096"), l); e != api.ErrLarge || at != 1 {
		t.Error(e, at)
	}
	if _, e, at := spread.Eval(h, tree(t, "o*o"), l); e != api.ErrLarge || at != 2 {
		t.Error(e, at)
	}
	for _, m := range []api.Meas{l[0].Value, l[1].Value} {
		if _, e := spread.Budget(m); e != api.ErrLarge {
			t.Error(e)
		}
	}
	if used := time.Since(begun); used > 60*time.Second {
		t.Error(used)
	}
}
