package exact_test

import (
	"math/rand"
	"slices"
	"strings"
	"sync"
	"testing"
	"time"

	"cubit/api"
	"cubit/exact"
	"cubit/house"
	"cubit/rat"
	"cubit/syntax"
)

// P21.1, P21.2: the chapter's examples, the document's, and their like.
func TestExamples(t *testing.T) {
	h := ownHouse(t)
	for text, want := range map[string][2]string{
		"5 km": {"5000", "L"}, "1 mi / (1 yd)": {"1760", "1"}, "1 mi / 1 yd": {"114967512/78125", "L^2"}, "72 km/h": {"20", "L T^-1"}, "72 km/h in m/s": {"20", "m / s"}, "20 degC in K": {"5863/20", "K"}, "20 degC in degF": {"68", "degF"}, "20 \u00b0C in \u2109": {"68", "\u2109"}, "0.1 + 0.2": {"3/10", "1"},
		"sqrt(16 m^2)": {"4", "L"}, "sqrt(4/9)": {"2/3", "1"}, "sqrt(0)": {"0", "1"}, "sqrt(1e598)": {"1e299", "1"}, "abs(-3 m)": {"3", "L"}, "abs(3)": {"3", "1"}, "abs(-0)": {"0", "1"}, "2^-2": {"1/4", "1"}, "0^0": {"1", "1"}, "(0 m)^0": {"1", "1"}, "(-2)^3": {"-8", "1"}, "-2^2": {"-4", "1"}, "(-1/2)^-3": {"-8", "1"}, "1^4096": {"1", "1"}, "(-1)^-4095": {"-1", "1"},
		"2.50(5)e-3": {"1/400", "1"}, "007": {"7", "1"}, "-0": {"0", "1"}, "12(3)e2": {"1200", "1"}, "12.5(30)": {"25/2", "1"}, "0(1)": {"0", "1"},
		"20 \u00b0C": {"5863/20", "H"}, "-20 \u00b0C": {"5063/20", "H"}, "20 \u00b0C - 10 \u00b0C": {"10", "H"}, "20 \u00b0C + 10 K": {"6063/20", "H"}, "1 K in \u00b0C": {"-5443/20", "\u00b0C"}, "20 \u00b0C - 10 \u00b0C in K": {"10", "K"}, "0 \u00b0F in \u00b0C": {"-160/9", "\u00b0C"}, "1 \u00b0C + 1 \u00b0C in \u00b0C": {"5503/20", "\u00b0C"},
		"light": {"299792458", "L T^-1"}, "light^2 / gravity": {}, "1 m in 2 m": {"1/2", "2 * m"}, "1 m in 100 km / 5": {"1/20000", "100 * km / 5"}, "1 m^2 in m (m)": {"1", "m * m"}, "7 in 2": {"7/2", "2"}, "7 in 1e-2": {"700", "1e-2"}, "1 m in m^2/(3 m)": {"3", "m^2 / (3 * m)"}, "m": {"1", "L"}, "1 - 1": {"0", "1"}, "5 in m^0": {"5", "m^0"}, "m -> km": {"1/1000", "km"},
	} {
		x := tree(t, text)
		checkAll(t, h, x, nil)
		if want[0] == "" {
			continue
		}
		if v, unit, e, at := exact.Told(h, x, nil); v != number(want[0]) || unit != want[1] || e != api.OK || at != 0 {
			t.Errorf("Told(%q) = %s, %q, %d, %d", text, short(v), unit, e, at)
		}
	}
	if q, e, at := exact.Eval(h, tree(t, "72 km/h in m/s"), nil); q != (api.Quant{Value: number("20"), Dim: api.Dim{1, 0, -1}}) || e != api.OK || at != 0 {
		t.Error(q, e, at)
	}
	steps, e, at := exact.Steps(h, tree(t, "-20 \u00b0C + 1 K in 2 K"), nil)
	warm := api.Dim{0, 0, 0, 0, 1}
	want := []api.Quant{{Value: number("20")}, {Value: number("-20")}, {Value: number("1"), Dim: warm}, {Value: number("5063/20"), Dim: warm}, {Value: number("1")}, {Value: number("1"), Dim: warm}, {Value: number("1"), Dim: warm}, {Value: number("5083/20"), Dim: warm}, {Value: number("2")}, {Value: number("1"), Dim: warm}, {Value: number("2"), Dim: warm}, {Value: number("5083/20"), Dim: warm}}
	if !slices.Equal(steps, want) || e != api.OK || at != 0 {
		t.Error(short(steps), e, at)
	}
}

// fault: of Told; where Eval has another answer, it has none.
type fault struct {
	why api.Errno
	at  int
}

// P21.1, P21.2, P6: the first node that comes to no number; dimensions go ahead of numbers.
func TestFaults(t *testing.T) {
	h := ownHouse(t)
	for text, want := range map[string]fault{
		"sqrt(2)": {210, 1}, "sqrt(-1)": {210, 2}, "sqrt(-4)": {210, 2}, "sqrt(2 m^2)": {210, 4}, "sqrt(1/2)": {210, 3}, "sqrt(4/3)": {210, 3}, "sqrt(8/9)": {210, 3}, "2 + sqrt(3) + 1/0": {210, 2}, "1/0 + sqrt(3)": {8, 2},
		"1 m + 1 s": {50, 5}, "5 km + 2 s": {50, 5}, "1/(2-2)": {8, 4}, "1 / 0": {8, 2}, "0/0": {8, 2}, "0^-1": {8, 1}, "(1 - 1)^-4096": {8, 3}, "foo": {201, 0}, "1e300 m + 1 s": {50, 5}, "1/0 + 1 m": {50, 5}, "sqrt(2) m in s": {50, 4}, "1/0 + foo": {201, 3},
		"10^600": {7, 1}, "10^-600": {7, 1}, "1e599 * 10": {7, 2}, "1e599 + 9e599": {7, 2}, "1e599 * 10 / 10": {7, 2}, "-1e300 * 1e300": {7, 3}, "1e-599 / 10": {7, 2}, "9e599 - (-1e599)": {7, 3}, "2^1994": {7, 1}, "2^4096 / 2^4096": {7, 1}, "1e599 km": {7, 2}, "(1/3)^4096": {7, 3}, "1e300 * 1e300 * 0": {7, 2}, "1e-599 + 1e599": {7, 2},
		"1 m in m/0": {8, 5}, "1 in 0^-1": {8, 2}, "1 m in 1e300 * 1e300 m": {7, 5}, "1/0 in foo": {200, 3}, "20 \u00b0C in 2 \u00b0C": {120, 4}, "1 m in x": {200, 3},
		// These come to a number, but can not be told in their unit.
		"1 m in 0 m": {3, 3}, "1 m in 2(1) m": {3, 3}, "1 m in m * 2(0)": {3, 4}, "1 in 0^0": {3, 1}, "1e599 m in 1e-1 m": {7, 6}, "1e599 m in mm": {7, 4}, "1e-599 m in km": {7, 4}, "7 in (0)": {3, 1},
	} {
		x := tree(t, text)
		checkAll(t, h, x, nil)
		if v, unit, e, at := exact.Told(h, x, nil); v != (api.Rat{}) || unit != "" || (fault{e, at}) != want {
			t.Errorf("Told(%q) = %s, %q, %d, %d, not %v", text, short(v), unit, e, at, want)
		}
	}
	for _, text := range []string{"1 m in 0 m", "1 m in 2(1) m", "1e599 m in 1e-1 m", "7 in (0)"} {
		if _, e, at := exact.Eval(h, tree(t, text), nil); e != api.OK || at != 0 {
			t.Errorf("Eval(%q): %d at %d", text, e, at)
		}
	}
}

// P21.1: what a name stands for, and numbers that are large on the way alone.
func TestNames(t *testing.T) {
	h := oddHouse(t)
	l := []api.Bound{bound("C", "7", api.Dim{9}), bound("C", "8", api.Dim{}), bound("m", "5", api.Dim{}), bound("neg", "1e599", api.Dim{})}
	for text, want := range map[string]string{"C": "7", "2 C": "14", "2 C^2": "98", "m": "5", "m + 1 in 1": "6", "neg": "1e599", "meter": "1", "6 meter in m": "6", "(6 m) meter in 2 m": "15"} {
		x := tree(t, text)
		checkAll(t, h, x, l)
		if v, _, e, at := exact.Told(h, x, l); v != number(want) || e != api.OK {
			t.Errorf("Told(%q) = %s, %d, %d", text, short(v), e, at)
		}
	}
	for text, want := range map[string]string{"neg": "-5/4", "nil": "0", "round": "1e300", "even": "2", "one": "7", "c": "299792458", "1e300 q": "1e599", "-1 o": "-169/35", "2 z": "4", "z": "2", "1 C": "5483/20", "-1e298 q - (-1e298 q)": "0", "1e599 m in big": "1e299", "1e300 m in big": "1", "1e599 K in q": "1e300", "2 K in o": "224/15"} {
		x := tree(t, text)
		checkAll(t, h, x, nil)
		if v, _, e, at := exact.Told(h, x, nil); v != number(want) || e != api.OK {
			t.Errorf("Told(%q) = %s, %d, %d", text, short(v), e, at)
		}
	}
	for text, want := range map[string]fault{"mu": {7, 0}, "le": {7, 0}, "1 + mu / m^2": {7, 1}, "0 mu": {7, 1}, "1e301 q": {7, 2}, "1 hbig": {7, 1}, "big big": {7, 2}, "1e400 m in small": {7, 4}, "mu + 1": {50, 1}} {
		x := tree(t, text)
		checkAll(t, h, x, nil)
		if _, _, e, at := exact.Told(h, x, nil); (fault{e, at}) != want {
			t.Errorf("Told(%q): %d, %d", text, e, at)
		}
	}
}

// P21.1, P21.2, P5: expressions of chance against the model, in both houses.
func TestSteps(t *testing.T) {
	r := rand.New(rand.NewSource(211))
	for _, odd := range []bool{false, true} {
		h := ownHouse(t)
		if odd {
			h = oddHouse(t)
		}
		seen := map[api.Errno]int{}
		for range 9000 {
			text := grownWhole(r, odd)
			x, e, at := syntax.Parse(text)
			if e == api.ErrDeep {
				continue
			}
			if e != api.OK {
				t.Fatal(text, e, at)
			}
			seen[checkAll(t, h, x, variables()[:r.Intn(7)])]++
		}
		for _, e := range []api.Errno{api.OK, api.ErrDim, api.ErrName, api.ErrUnit, api.ErrAffine, api.ErrZero, api.ErrLarge, api.ErrDomain, api.ErrForm} {
			if seen[e] < 10 {
				t.Error("so few of", e, seen)
			}
		}
		if seen[api.OK] < 3000 {
			t.Error("so few that come to a number:", seen)
		}
	}
}

// P21.1: what is not given as it should be, and which is told first.
func TestWrongArguments(t *testing.T) {
	h := ownHouse(t)
	x := tree(t, "1/0")
	wrong := api.Tree{Nodes: []api.Node{{Kind: api.NName, Text: "m", A: -1, B: -1}, {Kind: api.NName, Text: "in", A: -1, B: -1}}}
	notRight := []api.Bound{{Name: "a"}, {Name: "a", Value: api.Meas{Value: api.Rat{Num: "2", Den: "4"}}}, {Name: "a", Value: api.Meas{Value: rat.Of(1)}, Dim: api.Dim{100}}, {Name: "a", Value: api.Meas{Value: rat.Of(1), Sources: []api.Source{{Name: "", By: rat.Of(1)}}}}}
	check := func(h *house.House, x api.Tree, l []api.Bound, want fault) {
		t.Helper()
		if steps, e, at := exact.Steps(h, x, l); (fault{e, at}) != want || len(steps) > 0 {
			t.Errorf("Steps: %s, %d, %d", short(steps), e, at)
		}
		if q, e, at := exact.Eval(h, x, l); (fault{e, at}) != want || q != (api.Quant{}) {
			t.Errorf("Eval: %v, %d, %d", q, e, at)
		}
		if v, unit, e, at := exact.Told(h, x, l); (fault{e, at}) != want || v != (api.Rat{}) || unit != "" {
			t.Errorf("Told: %v, %q, %d, %d", v, unit, e, at)
		}
	}
	for _, v := range notRight {
		check(h, x, []api.Bound{v}, fault{api.ErrArg, 0})
		check(h, wrong, []api.Bound{v}, fault{api.ErrForm, 1})
		check(nil, wrong, []api.Bound{v}, fault{api.ErrNil, 0})
		check(h, api.Tree{}, []api.Bound{v}, fault{api.ErrSize, 0})
	}
	check(nil, x, nil, fault{api.ErrNil, 0})
	check(h, x, nil, fault{api.ErrZero, 2})
	check(h, api.Tree{}, nil, fault{api.ErrSize, 0})
	check(h, api.Tree{Nodes: []api.Node{{Kind: 11, A: -1, B: -1}}}, nil, fault{api.ErrArg, 0})
	check(h, api.Tree{Nodes: []api.Node{{Kind: api.NNumber, Text: "1e600", A: -1, B: -1}}}, nil, fault{api.ErrForm, 0})
	check(h, api.Tree{Nodes: []api.Node{{Kind: api.NNumber, Text: "1", A: -1, B: -1}, {Kind: api.NPow, Text: "5000", A: 0, B: -1}}}, nil, fault{api.ErrForm, 1})
	room := []api.Bound{bound("b", "1", api.Dim{}), notRight[0]}
	if _, e, _ := exact.Eval(h, tree(t, "b"), room[:1]); e != api.OK {
		t.Error("what lies behind the list is read")
	}
}

// What is answered is new, what was given stays.
func TestAnswersAreNew(t *testing.T) {
	h := ownHouse(t)
	x, l := tree(t, "x + 5 km in 2 m"), []api.Bound{bound("x", "3", api.Dim{1})}
	nodes := slices.Clone(x.Nodes)
	first, _, _ := exact.Steps(h, x, l)
	first[0], first[8] = api.Quant{}, api.Quant{}
	second, _, _ := exact.Steps(h, x, l)
	v, unit, e, _ := exact.Told(h, x, l)
	if second[0].Value != rat.Of(3) || second[8].Value != rat.Of(5003) || !slices.Equal(nodes, x.Nodes) || l[0].Value.Value != rat.Of(3) || v != number("5003/2") || unit != "2 * m" || e != api.OK {
		t.Error(short(second), v, unit)
	}
}

func TestManyAtOneTime(t *testing.T) {
	h := ownHouse(t)
	l := []api.Bound{bound("x", "3", api.Dim{1})}
	texts := []string{"72 km/h in m/s", "5 km + 2 s", "foo", "20 \u00b0C in \u00b0F", "x + 1 m", "sqrt(2)", "gas / light"}
	tell := func(text string) string {
		x, _, _ := syntax.Parse(text)
		steps, e, at := exact.Steps(h, x, l)
		v, unit, why, place := exact.Told(h, x, l)
		return short([]any{steps, e, at, v, unit, why, place})
	}
	var want []string
	for _, text := range texts {
		want = append(want, tell(text))
	}
	var wait sync.WaitGroup
	for range 8 {
		wait.Go(func() {
			for range 50 {
				for i, text := range texts {
					if got := tell(text); got != want[i] {
						t.Errorf("%q: %s", text, got)
					}
				}
			}
		})
	}
	wait.Wait()
}

// balanced: a text of just so many parts that is not deep.
func balanced(parts int, word, sign string) string {
	if parts == 1 {
		return word
	}
	return "(" + balanced(parts/2, word, sign) + ")" + sign + "(" + balanced(parts-parts/2, word, sign) + ")"
}

// At the limits all ends soon.
func TestGreatTrees(t *testing.T) {
	begun := time.Now()
	h := ownHouse(t)
	nines := strings.Repeat("9", 600)
	root := number(nines[:300])
	square, _ := rat.Mul(root, root)
	below, _ := rat.Quo(rat.Of(7), number(nines))
	l := []api.Bound{{Name: "a", Value: api.Meas{Value: below}}, {Name: "s2", Value: api.Meas{Value: square}}, bound("n", nines, api.Dim{})}
	if q, e, at := exact.Eval(h, tree(t, balanced(4096, "a", "+")), l); q.Value != bigTimes(below, 4096) || e != api.OK {
		t.Error(short(q), e, at)
	}
	if q, e, at := exact.Eval(h, tree(t, balanced(2700, "sqrt(s2)", "-")), l); q.Dim != (api.Dim{}) || e != api.OK {
		t.Error(short(q), e, at)
	}
	if q, e, at := exact.Eval(h, tree(t, balanced(2000, "(a/a)", "*")), l); q.Value != rat.Of(1) || e != api.OK {
		t.Error(short(q), e, at)
	}
	if q, e, at := exact.Eval(h, tree(t, balanced(4096, "rgas", "+")), l); e != api.OK {
		t.Error(short(q), e, at)
	}
	if _, e, at := exact.Eval(h, tree(t, "n^4096"), l); e != api.ErrLarge || at != 1 {
		t.Error(e, at)
	}
	if q, e, at := exact.Eval(h, tree(t, balanced(2700, "a^-1", "-")), l); e != api.OK {
		t.Error(short(q), e, at)
	}
	if used := time.Since(begun); used > 20*time.Second {
		t.Error(used)
	}
}

func bigTimes(r api.Rat, n int64) api.Rat {
	v, _ := rat.Mul(r, rat.Of(n))
	return v
}
