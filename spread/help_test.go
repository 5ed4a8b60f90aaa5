package spread_test

import (
	"fmt"
	"math/big"
	"math/rand"
	"slices"
	"strconv"
	"strings"
	"testing"

	"cubit/api"
	"cubit/decl"
	"cubit/house"
	"cubit/infer"
	"cubit/lex"
	"cubit/rat"
	"cubit/spread"
	"cubit/syntax"
)

// short: a thing as text, but not all of it.
func short(v any) string { return fmt.Sprintf("%.400s", fmt.Sprintf("%+v", v)) }

func pick[T any](r *rand.Rand, l ...T) T { return l[r.Intn(len(l))] }

func ownHouse(t testing.TB) *house.House {
	t.Helper()
	h, e := house.Own()
	if e != api.OK {
		t.Fatal(e)
	}
	return h
}

// oddities: great factors, scales whose offset brings back what is too large, constants with all kinds of spreads, and of names that no source has.
const oddities = `base metre m L 1 si
base second s T 1 si
base kelvin K H 1 none
prefix kilo k 1000 si
unit big big 1e300 none m
unit small small 1e-300 none m
unit half half 1/2 none
unit third third 1/3 none
scale celsius C 1 5463/20 K
scale zero z 2 0 K
scale odd o 3/7 -22/5 K
scale back b 1e300 -9e599 K
const speed c 299792458 0 m s^-1
const minus neg -5/3 1/2 half^2 third^-1
const ` + greek + ` al 7/2 1/3 km
const nought nil 0 1 m
const mu mu 1 1 big^2
const wide wi 1e-300 1 big^2
const bare one 7 2
const ` + long + ` lo 5 1/7
const ` + mixed + ` fa 3 1/9
const % pro 6 1/5
const round ro 1e-300 2e-300 big^2
const even ev 2 1 big^2 small^2
alias meter m
`

const (
	greek = "\u03b1\u03bb\u03c6\u03b1"
	mixed = "fa\u00f8"
	long  = "aaaaaaaaaabbbbbbbbbbccccccccccdddddddddd" // as long as a name can be
)

func oddHouse(t testing.TB) *house.House {
	t.Helper()
	l, e, at := decl.Parse(oddities)
	if e != api.OK {
		t.Fatal(e, at)
	}
	h, e, at := house.Build(l)
	if e != api.OK {
		t.Fatal(e, at)
	}
	return h
}

func tree(t testing.TB, text string) api.Tree {
	t.Helper()
	x, e, at := syntax.Parse(text)
	if e != api.OK {
		t.Fatalf("Parse(%.200q): %d at %d", text, e, at)
	}
	return x
}

// number: of a text as rat reads it.
func number(text string) api.Rat {
	v, e, _ := rat.Parse(text)
	if e != api.OK {
		panic("no number: " + text)
	}
	return v
}

// meas: a value, and its sources: a name, its By, and so on.
func meas(v string, l ...string) api.Meas {
	m := api.Meas{Value: number(v)}
	for i := 0; i < len(l); i += 2 {
		m.Sources = append(m.Sources, api.Source{Name: l[i], By: number(l[i+1])})
	}
	return m
}

func sameMeas(a, b api.Meas) bool { return a.Value == b.Value && slices.Equal(a.Sources, b.Sources) }

func same(a, b api.Spreads) bool { return a.Dim == b.Dim && sameMeas(a.Value, b.Value) }

func bigOf(r api.Rat) *big.Rat {
	v, ok := new(big.Rat).SetString(r.Num + "/" + r.Den)
	if !ok {
		panic("no number: " + r.Num + "/" + r.Den)
	}
	return v
}

// told: a number, or ErrLarge.
func told(v *big.Rat) (api.Rat, api.Errno) {
	num, den := v.Num().String(), v.Denom().String()
	if len(strings.TrimPrefix(num, "-")) > 600 || len(den) > 600 {
		return api.Rat{}, api.ErrLarge
	}
	return api.Rat{Num: num, Den: den}, api.OK
}

// wild: an uncertain value in the library's great numbers.
type wild struct {
	at *big.Rat
	by map[string]*big.Rat
}

func wildOf(m api.Meas) wild {
	w := wild{bigOf(m.Value), map[string]*big.Rat{}}
	for _, s := range m.Sources {
		w.by[s.Name] = bigOf(s.By)
	}
	return w
}

func (w wild) of(name string) *big.Rat {
	if by := w.by[name]; by != nil {
		return by
	}
	return new(big.Rat)
}

// told: in the one form, with the errors of chapter 4.
func (w wild) told() (api.Meas, api.Errno) {
	v, e := told(w.at)
	if e != api.OK {
		return api.Meas{}, e
	}
	m := api.Meas{Value: v}
	for name, x := range w.by {
		if x.Sign() == 0 {
			continue
		}
		by, e := told(x)
		if e != api.OK {
			return api.Meas{}, e
		}
		m.Sources = append(m.Sources, api.Source{Name: name, By: by})
	}
	slices.SortFunc(m.Sources, func(a, b api.Source) int { return strings.Compare(a.Name, b.Name) })
	if len(m.Sources) > 64 {
		return api.Meas{}, api.ErrSource
	}
	return m, api.OK
}

// both: at a value, with what join makes of By of each source of a or b.
func both(at *big.Rat, a, b wild, join func(x, y *big.Rat) *big.Rat) wild {
	w := wild{at, map[string]*big.Rat{}}
	for _, l := range []wild{a, b} {
		for name := range l.by {
			w.by[name] = join(a.of(name), b.of(name))
		}
	}
	return w
}

func add(x, y *big.Rat) *big.Rat { return new(big.Rat).Add(x, y) }
func sub(x, y *big.Rat) *big.Rat { return new(big.Rat).Sub(x, y) }
func mul(x, y *big.Rat) *big.Rat { return new(big.Rat).Mul(x, y) }
func quo(x, y *big.Rat) *big.Rat { return new(big.Rat).Quo(x, y) }

// along: at a value, with each By times a slope.
func along(at, slope *big.Rat, a wild) wild {
	return both(at, a, wild{}, func(x, _ *big.Rat) *big.Rat { return mul(x, slope) })
}

func raised(f *big.Rat, n int) *big.Rat {
	if n < 0 {
		f, n = new(big.Rat).Inv(f), -n
	}
	e := big.NewInt(int64(n))
	return new(big.Rat).SetFrac(new(big.Int).Exp(f.Num(), e, nil), new(big.Int).Exp(f.Denom(), e, nil))
}

func powered(a wild, text string) (wild, api.Errno) {
	n, _ := strconv.Atoi(text)
	if a.at.Sign() == 0 && n < 0 {
		return wild{}, api.ErrZero
	}
	slope := new(big.Rat)
	if n == 1 || n != 0 && a.at.Sign() != 0 {
		slope = mul(big.NewRat(int64(n), 1), raised(a.at, n-1))
	}
	return along(raised(a.at, n), slope, a), api.OK
}

func called(a wild, text string) (wild, api.Errno) {
	one := big.NewRat(1, 1)
	if text == "abs" {
		if a.at.Sign() < 0 {
			return along(new(big.Rat).Neg(a.at), new(big.Rat).Neg(one), a), api.OK
		}
		return a, api.OK
	}
	if a.at.Sign() < 0 {
		return wild{}, api.ErrDomain
	}
	root := new(big.Rat).SetFrac(new(big.Int).Sqrt(a.at.Num()), new(big.Int).Sqrt(a.at.Denom()))
	if mul(root, root).Cmp(a.at) != 0 {
		return wild{}, api.ErrDomain
	}
	if root.Sign() != 0 {
		return along(root, quo(one, add(root, root)), a), api.OK
	}
	for _, by := range a.by {
		if by.Sign() != 0 {
			return wild{}, api.ErrZero
		}
	}
	return wild{at: root}, api.OK
}

// unitFrom: the first node of the unit of NIn.
func unitFrom(t api.Tree) int {
	end := len(t.Nodes) - 1
	if t.Nodes[end].Kind != api.NIn {
		return end + 1
	}
	return t.Nodes[end].A + 1
}

func variable(l []api.Bound, name string) int {
	return slices.IndexFunc(l, func(b api.Bound) bool { return b.Name == name })
}

// naming: the value of a name, in the chapter's words.
func naming(h *house.House, t api.Tree, l []api.Bound, i int) wild {
	word := t.Nodes[i].Text
	if at := variable(l, word); at >= 0 && i < unitFrom(t) {
		return wildOf(l[at].Value)
	}
	if u, e := h.Unit(word); e == api.OK {
		return wild{at: bigOf(u.Factor)}
	}
	c, _ := h.Const(word)
	factor := big.NewRat(1, 1)
	for _, part := range strings.Fields(c.Unit) {
		word, power, raisedTo := strings.Cut(part, "^")
		if !raisedTo {
			power = "1"
		}
		u, _ := h.Unit(word)
		n, _ := strconv.Atoi(power)
		factor.Mul(factor, raised(bigOf(u.Factor), n))
	}
	name := c.Name
	for _, b := range []byte(name) {
		if b < 33 || b > 126 || len(c.Name) > 40 {
			name = "@" + strconv.Itoa(slices.Index(h.Consts(), c))
		}
	}
	return wild{mul(bigOf(c.Value), factor), map[string]*big.Rat{name: mul(bigOf(c.Spread), factor)}}
}

// scaleOf: the scale of which a product is a number.
func scaleOf(h *house.House, t api.Tree, l []api.Bound, n api.Node) (api.Unit, bool) {
	b := t.Nodes[n.B]
	if b.Kind != api.NName || variable(l, b.Text) >= 0 {
		return api.Unit{}, false
	}
	u, e := h.Unit(b.Text)
	return u, e == api.OK && u.Offset != rat.Of(0)
}

// comes: what a node comes to, by what those ahead of it do, in the words of chapters 4 and 23.
func comes(h *house.House, t api.Tree, l []api.Bound, i int, ahead []wild) (wild, api.Errno) {
	n := t.Nodes[i]
	var a, b wild
	if n.A >= 0 {
		a = ahead[n.A]
	}
	if n.B >= 0 {
		b = ahead[n.B]
	}
	switch n.Kind {
	case api.NNumber:
		v, by, _ := lex.Number(n.Text)
		return wild{bigOf(v), map[string]*big.Rat{"#" + strconv.Itoa(i): bigOf(by)}}, api.OK
	case api.NName:
		return naming(h, t, l, i), api.OK
	case api.NNeg:
		return along(new(big.Rat).Neg(a.at), big.NewRat(-1, 1), a), api.OK
	case api.NAdd:
		return both(add(a.at, b.at), a, b, add), api.OK
	case api.NSub:
		return both(sub(a.at, b.at), a, b, sub), api.OK
	case api.NMul:
		if u, is := scaleOf(h, t, l, n); is {
			factor := bigOf(u.Factor)
			return along(add(mul(a.at, factor), bigOf(u.Offset)), factor, a), api.OK
		}
		return both(mul(a.at, b.at), a, b, func(x, y *big.Rat) *big.Rat { return add(mul(a.at, y), mul(b.at, x)) }), api.OK
	case api.NQuo:
		if b.at.Sign() == 0 {
			return wild{}, api.ErrZero
		}
		q := quo(a.at, b.at)
		return both(q, a, b, func(x, y *big.Rat) *big.Rat { return quo(sub(x, mul(y, q)), b.at) }), api.OK
	case api.NPow:
		return powered(a, n.Text)
	case api.NCall:
		return called(a, n.Text)
	}
	return a, api.OK
}

// model: what Steps should say.
func model(h *house.House, t api.Tree, l []api.Bound) ([]api.Spreads, api.Errno, int) {
	dims, why, at := infer.Dims(h, t, l)
	if why != api.OK {
		return nil, why, at
	}
	all, steps := make([]wild, len(t.Nodes)), make([]api.Spreads, len(t.Nodes))
	for i := range t.Nodes {
		w, e := comes(h, t, l, i, all)
		if e != api.OK {
			return nil, e, i
		}
		m, e := w.told()
		if e != api.OK {
			return nil, e, i
		}
		all[i], steps[i] = wildOf(m), api.Spreads{Value: m, Dim: dims[i]}
	}
	return steps, api.OK, 0
}

// checkAll: both calls against the model; what it says.
func checkAll(t *testing.T, h *house.House, x api.Tree, l []api.Bound) api.Errno {
	t.Helper()
	text, _ := syntax.Print(x)
	want, why, place := model(h, x, l)
	got, e, at := spread.Steps(h, x, l)
	if !slices.EqualFunc(got, want, same) || e != why || at != place {
		t.Errorf("Steps(%.300q) = %s, %d, %d, not %s, %d, %d", text, short(got), e, at, short(want), why, place)
	}
	last := api.Spreads{}
	if why == api.OK {
		last = want[len(want)-1]
	}
	if v, e, at := spread.Eval(h, x, l); !same(v, last) || e != why || at != place {
		t.Errorf("Eval(%.300q) = %s, %d, %d, not %s, %d, %d", text, short(v), e, at, short(last), why, place)
	}
	return why
}

// variables: some of each dimension that is grown, which share sources with one another, and #1 with a number; the second x, and a scale's name, too.
func variables() []api.Bound {
	return []api.Bound{
		{Name: "x", Value: meas("3/2", "a", "1/10", "b", "-2/3"), Dim: api.Dim{1}},
		{Name: "y", Value: meas("-7", "b", "1"), Dim: api.Dim{0, 0, 1}},
		{Name: "q", Value: meas("0", "#1", "1/4", "a", "5"), Dim: api.Dim{}},
		{Name: "x", Value: meas("5", "e", "1"), Dim: api.Dim{}},
		{Name: "p", Value: meas("-1/3", "c", "1/7"), Dim: api.Dim{}},
		{Name: "degF", Value: meas("4"), Dim: api.Dim{0, 0, 0, 0, 1}},
		{Name: "w", Value: meas("9/4", "electron", "1/2", "minus", "3"), Dim: api.Dim{}},
	}
}

// grown: an expression of chance; meant is the dimension for which it aims.
func grown(r *rand.Rand, meant, most int, odd bool) string {
	if most <= 0 || r.Intn(8) == 0 {
		return grownLeaf(r, meant, odd)
	}
	part := func(meant int) string { return "(" + grown(r, meant, most-1-r.Intn(2), odd) + ")" }
	switch r.Intn(9) {
	case 0, 1:
		return part(meant) + pick(r, " + ", " - ") + part(meant)
	case 2:
		return part(meant) + pick(r, " * ", " / ") + part(0)
	case 3:
		return part(0) + " * " + part(meant)
	case 4:
		return "-" + part(meant)
	case 5:
		if r.Intn(3) == 0 && meant == 0 {
			return "sqrt(" + part(0) + ")"
		}
		return "sqrt(" + part(meant) + "^2)"
	case 6:
		return "abs(" + part(meant) + ")"
	case 7:
		if meant == 0 {
			return part(0) + "^" + pick(r, "1", "2", "3", "0", "-1", "-2", "40", pick(r, "5", "6", "7", "8", "4096"))
		}
		return part(meant) + "^1"
	}
	return grownLeaf(r, meant, odd) + pick(r, " + ", " - ") + part(meant)
}

// grownLeaf: of no dimension, of a length, a time, a temperature; seldom of anything.
func grownLeaf(r *rand.Rand, meant int, odd bool) string {
	n := pick(r, "2", "0", "1.5(2)", "4(1)/9", "-3.0(7)", "007(2)", "1(1)e-3", "9", "2.25(5)", "0(3)", "5(0)", pick(r, "1(1)e300", "1e-400", "0(1)e599", "12345678901234567890(1)", "7"))
	if r.Intn(60) == 0 {
		meant = r.Intn(4)
	}
	if odd {
		switch meant {
		case 1:
			return pick(r, n+" m", n+" km", "x", "m", n+" small", n+" big", "c * (2 s)", n+" meter", "al", greek, "nil")
		case 2:
			return pick(r, n+" s", "s", "y", "1 m / c", "ks")
		case 3:
			return pick(r, n+" K", n+" C", n+" o", n+" z", "1e300 b", n+" b", "K")
		}
		return pick(r, n, n, "q", "p", "w", "half", "third", "neg", "one", "lo", "fa", "%", "ev / (m^4)", "ro / (m^2)", "al / m", pick(r, "mu / (m^2)", "wi / m^2"), n+" m / (2 m)")
	}
	switch meant {
	case 1:
		return pick(r, n+" m", n+" km", "x", "m", "mi", n+" yd", "light * (2 s)")
	case 2:
		return pick(r, n+" s", "s", "y", n+" h", "1 m / light")
	case 3:
		return pick(r, n+" K", n+" \u00b0C", n+" \u00b0F", n+" degF", "K", "degF")
	}
	return pick(r, n, n, "q", "p", "w", n+" m / (2 m)", n+" kB / (1 b)", "electron / kg", "gas mol K / J", "melec / g")
}

// grownWhole: likewise, perhaps told in a unit.
func grownWhole(r *rand.Rand, odd bool) string {
	meant := r.Intn(4)
	text := grown(r, meant, r.Intn(6), odd)
	if r.Intn(3) > 0 {
		return text
	}
	unit := [][]string{{"1", "2 m / m", "m^0", "7(1)", "third", "rad"}, {"m", "km", "100(1) km", "2(1) m", "m^2 / (2 m)", "x", "m * 0", "m / 0", "0^-1 m", "big", "mi"}, {"s", "h", "0 s", "ks", "1e-5 s"}, {"K", "\u00b0C", "\u00b0F", "C", "o", "b", "2 K", "degF", "K^1"}}[meant]
	return text + " in " + pick(r, unit...)
}
