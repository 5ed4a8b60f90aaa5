package float_test

import (
	"math"
	"math/rand"
	"slices"
	"strings"
	"sync"
	"testing"
	"time"

	"cubit/api"
	"cubit/float"
	"cubit/house"
	"cubit/rat"
	"cubit/syntax"
)

// P22.1: the chapter's examples, and their like.
func TestExamples(t *testing.T) {
	h := ownHouse(t)
	for text, want := range map[string]uint64{"0.1 + 0.2": 0x3fd3333333333334, "3 km": 0x40a7700000000000, "1/3": 0x3fd5555555555555, "-0 * 1": 1 << 63, "20 \u00b0C": 0x4072526666666666, "sqrt(2)": 0x3ff6a09e667f3bcd} {
		x := tree(t, text)
		checkAll(t, h, x, nil)
		if f, e, at := float.Eval(h, x, nil); f.Bits != want || e != api.OK || at != 0 {
			t.Errorf("Eval(%q) = %x, %d, %d", text, f.Bits, e, at)
		}
	}
	none := math.Copysign(0, -1)
	for text, want := range map[string]float64{
		"72 km/h in m/s": held(72) * 1000 / 3600, "0 - 0": 0, "-0": none, "-0 - 0": none, "-0 + 0": 0, "--0": 0, "sqrt(-0)": none, "abs(-0)": 0, "abs(-2.5)": 2.5, "-1 * 0": none, "0 / (-3)": none, "-1e-400": none, "1e-400": 0, "5e-324 / 2": 0, "-5e-324 / 2": none, "5e-324 * 0.75": 5e-324,
		"2^10": 1024, "2^-2": 0.25, "0^0": 1, "(-0)^0": 1, "(-0)^1": none, "(-0)^2": 0, "(-2)^-3": -0.125, "1^4096": 1, "1^-4096": 1, "1.0000001^4096": multiplied(1.0000001, 4096), "0.1^3": held(0.1) * held(0.1) * held(0.1), "0.1^-3": 1 / multiplied(0.1, 3), "(1e-200)^2": 0, "(-1e-200)^3": none, "10^-308": 1 / multiplied(10, 308), "2^1023": math.Ldexp(1, 1023), "2^-1023": math.Ldexp(1, -1023),
		"9007199254740993": 9007199254740992, "1.5(7)e2": 150, "0.1 * 3": held(0.1) * 3, "0.1 + 0.2 - 0.3": 5.551115123125783e-17, "light": 299792458, "1 m in 3 m": 1, "1e16 + 1 - 1e16": 0, "1e308 + 7e307": 1.7e308, "-20 \u00b0C": 253.14999999999998, "7 in 2": 7, "1.7976931348623157e308": math.MaxFloat64, "1.7976931348623158e308": math.MaxFloat64, "32 \u00b0F": float64(held(32)*held(5.0/9)) + held(45967.0/180),
	} {
		x := tree(t, text)
		checkAll(t, h, x, nil)
		if f, e, at := float.Eval(h, x, nil); f.Bits != math.Float64bits(want) || e != api.OK || at != 0 {
			t.Errorf("Eval(%q) = %v, %d, %d, not %v", text, math.Float64frombits(f.Bits), e, at, want)
		}
	}
	steps, e, at := float.Steps(h, tree(t, "-2 km + x in 2 m"), []api.Bound{bound("x", "1/10", api.Dim{1})})
	long := api.Dim{1}
	want := []api.Real{real(2, api.Dim{}), real(-2, api.Dim{}), real(1000, long), real(-2000, long), real(0.1, long), real(-1999.9, long), real(2, api.Dim{}), real(1, long), real(2, long), real(-1999.9, long)}
	if !slices.Equal(steps, want) || e != api.OK || at != 0 {
		t.Error(short(steps), e, at)
	}
}

func real(f float64, d api.Dim) api.Real { return api.Real{Bits: math.Float64bits(f), Dim: d} }

// held: a float that is no constant, so that nothing is worked out without rounding.
func held(f float64) float64 { return f }

func multiplied(a float64, n int) float64 {
	p := 1.0
	for range n {
		p *= a
	}
	return p
}

type fault struct {
	why api.Errno
	at  int
}

// P22.1, P6: the first node that can not be; dimensions go ahead of numbers.
func TestFaults(t *testing.T) {
	h := ownHouse(t)
	for text, want := range map[string]fault{
		"1 / (1 - 1)": {8, 4}, "(1e300)^2": {31, 1}, "sqrt(0 - 1)": {210, 3}, "1e300 * 1e300 * 0": {31, 2}, "1 m + 1e400 s": {50, 5}, "sqrt(2 m)": {10, 3}, "foo": {201, 0},
		"1/0": {8, 2}, "1/(-0)": {8, 3}, "0/0": {8, 2}, "1 / 1e-400": {8, 2}, "0^-1": {8, 1}, "(-0)^-2": {8, 2}, "(1e-200)^-2": {8, 1}, "0.1^-400": {8, 1}, "sqrt(-5e-324)": {210, 2}, "sqrt(-1e-400)": {0, 0}, "1e300^-2": {31, 1}, "(1e-320)^-1": {31, 1}, "10^-309": {31, 1}, "2^1024": {31, 1}, "2^-1024": {31, 1}, "(-2)^1025": {31, 2},
		"1e400": {31, 0}, "-1e400": {31, 0}, "1e309 * 0": {31, 0}, "2 * 1e309": {31, 1}, "1e308 + 1e308": {31, 2}, "-1e308 - 1e308": {31, 3}, "1e308 * 10": {31, 2}, "1e308 / 0.1": {31, 2}, "1e308 km": {31, 2}, "1/0 + 1e400": {8, 2}, "1e400 + 1/0": {31, 0}, "sqrt(-1) + 1/0": {210, 2},
		"1 m in m / 0": {8, 5}, "1 m in 1e309 m": {31, 3}, "1 in 0^-1": {8, 2}, "1 in 1e300^2": {31, 2}, "1 m in 0 m": {0, 0}, "1 m in 2(1) m": {0, 0}, "1/0 in foo": {200, 3},
	} {
		x := tree(t, text)
		checkAll(t, h, x, nil)
		if f, e, at := float.Eval(h, x, nil); (fault{e, at}) != want || e != api.OK && f != (api.Real{}) {
			t.Errorf("Eval(%q) = %s, %d, %d, not %v", text, short(f), e, at, want)
		}
	}
}

// P22.1: what a name stands for, with numbers that are no floats.
func TestNames(t *testing.T) {
	h := oddHouse(t)
	l := []api.Bound{bound("C", "7", api.Dim{9}), bound("C", "8", api.Dim{}), bound("m", "1/10", api.Dim{}), bound("huge", "3", api.Dim{}), bound("v", "1e400", api.Dim{})}
	for text, want := range map[string]float64{"C": 7, "2 C": 14, "m": 0.1, "huge": 3, "m in 1": 0.1} {
		x := tree(t, text)
		checkAll(t, h, x, l)
		if f, e, at := float.Eval(h, x, l); f.Bits != math.Float64bits(want) || e != api.OK {
			t.Errorf("Eval(%q) = %s, %d, %d", text, short(f), e, at)
		}
	}
	for text, want := range map[string]float64{"neg": -5, "nil": 0, "ro": 1e300, "le": math.Copysign(0, -1), "tiny": 0, "3 tiny": 0, "1 C": 274.15, "1 g": 0, "-1e9 f": 0.1, "2 o": float64(held(2)*held(3.0/7)) + held(-4.4)} {
		x := tree(t, text)
		checkAll(t, h, x, nil)
		if f, e, at := float.Eval(h, x, nil); f.Bits != math.Float64bits(want) || e != api.OK {
			t.Errorf("Eval(%q) = %v, %d, %d", text, math.Float64frombits(f.Bits), e, at)
		}
	}
	for text, want := range map[string]fault{"mu": {7, 0}, "gr": {7, 0}, "1 + mu / m^2": {7, 1}, "1e309 * mu": {31, 0}, "huge": {31, 0}, "2 huge": {31, 1}, "v": {201, 0}, "2 w": {31, 2}, "0 w": {31, 2}, "0 r": {31, 1}, "-1 g": {31, 3}, "3 g": {31, 2}, "1e309 C": {31, 0}, "m / tiny": {8, 2}, "m in m / tiny * m": {8, 3}, "mu + 1": {50, 1}, "1 m in huge": {31, 3}, "1.5 K in r": {31, 3}} {
		x := tree(t, text)
		checkAll(t, h, x, nil)
		if _, e, at := float.Eval(h, x, nil); (fault{e, at}) != want {
			t.Errorf("Eval(%q): %d, %d, not %v", text, e, at, want)
		}
	}
	if _, e, at := float.Eval(h, tree(t, "1 + v"), l); e != api.ErrInf || at != 1 {
		t.Error(e, at)
	}
}

// P22.1, P22.3, P5: expressions of chance against the model, in both houses.
func TestSteps(t *testing.T) {
	r := rand.New(rand.NewSource(221))
	for _, odd := range []bool{false, true} {
		h := ownHouse(t)
		if odd {
			h = oddHouse(t)
		}
		seen := map[api.Errno]int{}
		for range 9000 {
			text := grownWhole(r, odd)
			x, e, at := syntax.Parse(text)
			if e == api.ErrDeep {
				continue
			}
			if e != api.OK {
				t.Fatal(text, e, at)
			}
			l := variables()[:r.Intn(8)]
			seen[checkAll(t, h, x, l)]++
			steps, _, _ := float.Steps(h, x, l)
			for _, s := range steps {
				if f := math.Float64frombits(s.Bits); math.IsInf(f, 0) || math.IsNaN(f) {
					t.Errorf("%q: %v", text, f)
				}
			}
		}
		for _, e := range []api.Errno{api.OK, api.ErrDim, api.ErrName, api.ErrUnit, api.ErrAffine, api.ErrZero, api.ErrDomain, api.ErrInf} {
			if seen[e] < 10 {
				t.Error("so few of", e, seen)
			}
		}
		if seen[api.OK] < 3000 || odd && seen[api.ErrLarge] < 10 {
			t.Error("so few:", seen)
		}
	}
}

// P22.1: what is not given as it should be, and which is told first.
func TestWrongArguments(t *testing.T) {
	h := ownHouse(t)
	x := tree(t, "1/0")
	wrong := api.Tree{Nodes: []api.Node{{Kind: api.NName, Text: "m", A: -1, B: -1}, {Kind: api.NName, Text: "in", A: -1, B: -1}}}
	notRight := []api.Bound{{Name: "a"}, {Name: "a", Value: api.Meas{Value: api.Rat{Num: "2", Den: "4"}}}, {Name: "a", Value: api.Meas{Value: rat.Of(1)}, Dim: api.Dim{100}}, {Name: "a", Value: api.Meas{Value: rat.Of(1), Sources: []api.Source{{Name: "", By: rat.Of(1)}}}}}
	check := func(h *house.House, x api.Tree, l []api.Bound, want fault) {
		t.Helper()
		if steps, e, at := float.Steps(h, x, l); (fault{e, at}) != want || len(steps) > 0 {
			t.Errorf("Steps: %s, %d, %d", short(steps), e, at)
		}
		if f, e, at := float.Eval(h, x, l); (fault{e, at}) != want || f != (api.Real{}) {
			t.Errorf("Eval: %v, %d, %d", f, e, at)
		}
	}
	for _, v := range notRight {
		check(h, x, []api.Bound{v}, fault{api.ErrArg, 0})
		check(h, wrong, []api.Bound{v}, fault{api.ErrForm, 1})
		check(nil, wrong, []api.Bound{v}, fault{api.ErrNil, 0})
		check(h, api.Tree{}, []api.Bound{v}, fault{api.ErrSize, 0})
	}
	check(nil, x, nil, fault{api.ErrNil, 0})
	check(h, x, nil, fault{api.ErrZero, 2})
	check(h, api.Tree{}, nil, fault{api.ErrSize, 0})
	check(h, api.Tree{Nodes: []api.Node{{Kind: 0, A: -1, B: -1}}}, nil, fault{api.ErrArg, 0})
	check(h, api.Tree{Nodes: []api.Node{{Kind: 11, A: -1, B: -1}}}, nil, fault{api.ErrArg, 0})
	check(h, api.Tree{Nodes: []api.Node{{Kind: api.NNumber, Text: "1", A: -1, B: -1}, {Kind: api.NPow, Text: "5000", A: 0, B: -1}}}, nil, fault{api.ErrForm, 1})
	room := []api.Bound{bound("b", "1", api.Dim{}), notRight[0]}
	if _, e, _ := float.Eval(h, tree(t, "b"), room[:1]); e != api.OK {
		t.Error("what lies behind the list is read")
	}
}

// What is answered is new, what was given stays.
func TestAnswersAreNew(t *testing.T) {
	h := ownHouse(t)
	x, l := tree(t, "x + 5 km in 2 m"), []api.Bound{bound("x", "3", api.Dim{1})}
	nodes := slices.Clone(x.Nodes)
	first, _, _ := float.Steps(h, x, l)
	first[0], first[8] = api.Real{}, api.Real{}
	second, _, _ := float.Steps(h, x, l)
	if second[0] != real(3, api.Dim{1}) || second[8] != real(5003, api.Dim{1}) || !slices.Equal(nodes, x.Nodes) || l[0].Value.Value != rat.Of(3) {
		t.Error(short(second))
	}
}

func TestManyAtOneTime(t *testing.T) {
	h := ownHouse(t)
	l := []api.Bound{bound("x", "3", api.Dim{1})}
	texts := []string{"72 km/h in m/s", "5 km + 2 s", "foo", "20 \u00b0C in \u00b0F", "x + 1 m", "sqrt(2)", "gas / light", "1/0"}
	tell := func(text string) string {
		x, _, _ := syntax.Parse(text)
		steps, e, at := float.Steps(h, x, l)
		return short([]any{steps, e, at})
	}
	var want []string
	for _, text := range texts {
		want = append(want, tell(text))
	}
	var wait sync.WaitGroup
	for range 8 {
		wait.Go(func() {
			for range 50 {
				for i, text := range texts {
					if got := tell(text); got != want[i] {
						t.Errorf("%q: %s", text, got)
					}
				}
			}
		})
	}
	wait.Wait()
}

// balanced: a text of just so many parts that is not deep.
func balanced(parts int, word, sign string) string {
	if parts == 1 {
		return word
	}
	return "(" + balanced(parts/2, word, sign) + ")" + sign + "(" + balanced(parts-parts/2, word, sign) + ")"
}

// At the limits all ends soon.
func TestGreatTrees(t *testing.T) {
	begun := time.Now()
	h := ownHouse(t)
	nines := strings.Repeat("9", 600)
	l := []api.Bound{{Name: "a", Value: api.Meas{Value: api.Rat{Num: nines[:599] + "8", Den: nines}}}}
	if f, e, at := float.Eval(h, tree(t, balanced(4096, "a", "+")), l); f.Bits != math.Float64bits(4096) || e != api.OK {
		t.Error(short(f), e, at)
	}
	if f, e, at := float.Eval(h, tree(t, balanced(2700, "a^4096", "*")), l); f.Bits != math.Float64bits(1) || e != api.OK {
		t.Error(short(f), e, at)
	}
	if f, e, at := float.Eval(h, tree(t, balanced(2700, "a^-4096", "*")), l); f.Bits != math.Float64bits(1) || e != api.OK {
		t.Error(short(f), e, at)
	}
	if f, e, at := float.Eval(h, tree(t, balanced(4096, "rgas", "+")), l); e != api.OK {
		t.Error(short(f), e, at)
	}
	if used := time.Since(begun); used > 20*time.Second {
		t.Error(used)
	}
}
