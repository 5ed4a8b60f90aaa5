package exact_test

import (
	"fmt"
	"math/big"
	"math/rand"
	"slices"
	"strconv"
	"strings"
	"testing"

	"cubit/api"
	"cubit/decl"
	"cubit/exact"
	"cubit/house"
	"cubit/infer"
	"cubit/lex"
	"cubit/rat"
	"cubit/syntax"
)

// short: a thing as text, but not all of it.
func short(v any) string { return fmt.Sprintf("%.400s", fmt.Sprintf("%+v", v)) }

func pick[T any](r *rand.Rand, l ...T) T { return l[r.Intn(len(l))] }

func ownHouse(t testing.TB) *house.House {
	t.Helper()
	h, e := house.Own()
	if e != api.OK {
		t.Fatal(e)
	}
	return h
}

// oddities: great factors, scales whose offset brings back what is too large, constants below 0, of no size, too large, and large only on the way.
const oddities = `base metre m L 1 si
base second s T 1 si
base kelvin K H 1 none
prefix kilo k 1000 si
prefix huge h 1e599 si
unit big big 1e300 si m
unit small small 1e-300 none m
unit half half 1/2 none
unit third third 1/3 none
scale celsius C 1 5463/20 K
scale zero z 2 0 K
scale odd o 3/7 -22/5 K
scale back q 1e300 -9e599 K
const speed c 299792458 0 m s^-1
const bare one 7 0
const minus neg -5/3 1/2 half^2 third^-1
const nought nil 0 0 big^2
const much mu 1e10 0 big^2
const less le -1e-10 0 small^2
const round ro 1e-300 0 big^2
const even ev 2 0 big^2 small^2
alias meter m
`

func oddHouse(t testing.TB) *house.House {
	t.Helper()
	l, e, at := decl.Parse(oddities)
	if e != api.OK {
		t.Fatal(e, at)
	}
	h, e, at := house.Build(l)
	if e != api.OK {
		t.Fatal(e, at)
	}
	return h
}

func tree(t testing.TB, text string) api.Tree {
	t.Helper()
	x, e, at := syntax.Parse(text)
	if e != api.OK {
		t.Fatal(text, e, at)
	}
	return x
}

// number: of a text as rat reads it.
func number(text string) api.Rat {
	v, e, _ := rat.Parse(text)
	if e != api.OK {
		panic("no number: " + text)
	}
	return v
}

func bound(name, value string, d api.Dim) api.Bound {
	return api.Bound{Name: name, Value: api.Meas{Value: number(value)}, Dim: d}
}

func bigOf(r api.Rat) *big.Rat {
	v, ok := new(big.Rat).SetString(r.Num + "/" + r.Den)
	if !ok {
		panic("no number: " + r.Num + "/" + r.Den)
	}
	return v
}

// told: a number, or ErrLarge.
func told(v *big.Rat) (api.Rat, api.Errno) {
	num, den := v.Num().String(), v.Denom().String()
	if len(strings.TrimPrefix(num, "-")) > 600 || len(den) > 600 {
		return api.Rat{}, api.ErrLarge
	}
	return api.Rat{Num: num, Den: den}, api.OK
}

// unitFrom: the first node of the unit of NIn.
func unitFrom(t api.Tree) int {
	end := len(t.Nodes) - 1
	if t.Nodes[end].Kind != api.NIn {
		return end + 1
	}
	return t.Nodes[end].A + 1
}

func variable(l []api.Bound, name string) int {
	return slices.IndexFunc(l, func(b api.Bound) bool { return b.Name == name })
}

// naming: the number of a name, in the chapter's words.
func naming(h *house.House, t api.Tree, l []api.Bound, i int) *big.Rat {
	word := t.Nodes[i].Text
	if at := variable(l, word); at >= 0 && i < unitFrom(t) {
		return bigOf(l[at].Value.Value)
	}
	if u, e := h.Unit(word); e == api.OK {
		return bigOf(u.Factor)
	}
	c, _ := h.Const(word)
	v := bigOf(c.Value)
	for _, part := range strings.Fields(c.Unit) {
		word, power, raisedTo := strings.Cut(part, "^")
		if !raisedTo {
			power = "1"
		}
		u, _ := h.Unit(word)
		v.Mul(v, raised(bigOf(u.Factor), power))
	}
	return v
}

func raised(f *big.Rat, text string) *big.Rat {
	n, _ := strconv.Atoi(text)
	if n < 0 {
		f, n = new(big.Rat).Inv(f), -n
	}
	e := big.NewInt(int64(n))
	return new(big.Rat).SetFrac(new(big.Int).Exp(f.Num(), e, nil), new(big.Int).Exp(f.Denom(), e, nil))
}

// rooted: by the whole roots of both parts.
func rooted(f *big.Rat) (*big.Rat, api.Errno) {
	if f.Sign() < 0 {
		return nil, api.ErrDomain
	}
	root := new(big.Rat).SetFrac(new(big.Int).Sqrt(f.Num()), new(big.Int).Sqrt(f.Denom()))
	if new(big.Rat).Mul(root, root).Cmp(f) != 0 {
		return nil, api.ErrDomain
	}
	return root, api.OK
}

// scaleOf: the scale of which a product is a number.
func scaleOf(h *house.House, t api.Tree, l []api.Bound, n api.Node) (api.Unit, bool) {
	b := t.Nodes[n.B]
	if b.Kind != api.NName || variable(l, b.Text) >= 0 {
		return api.Unit{}, false
	}
	u, e := h.Unit(b.Text)
	return u, e == api.OK && u.Offset != rat.Of(0)
}

// comes: what a node comes to, by what those ahead of it do, in the chapter's words.
func comes(h *house.House, t api.Tree, l []api.Bound, i int, ahead []*big.Rat) (*big.Rat, api.Errno) {
	n := t.Nodes[i]
	a, b := new(big.Rat), new(big.Rat)
	if n.A >= 0 {
		a = ahead[n.A]
	}
	if n.B >= 0 {
		b = ahead[n.B]
	}
	switch n.Kind {
	case api.NNumber:
		v, _, _ := lex.Number(n.Text)
		return bigOf(v), api.OK
	case api.NName:
		return naming(h, t, l, i), api.OK
	case api.NNeg:
		return new(big.Rat).Neg(a), api.OK
	case api.NAdd:
		return new(big.Rat).Add(a, b), api.OK
	case api.NSub:
		return new(big.Rat).Sub(a, b), api.OK
	case api.NMul:
		if u, is := scaleOf(h, t, l, n); is {
			v := new(big.Rat).Mul(a, bigOf(u.Factor))
			return v.Add(v, bigOf(u.Offset)), api.OK
		}
		return new(big.Rat).Mul(a, b), api.OK
	case api.NQuo:
		if b.Sign() == 0 {
			return nil, api.ErrZero
		}
		return new(big.Rat).Quo(a, b), api.OK
	case api.NPow:
		if a.Sign() == 0 && n.Text[0] == '-' {
			return nil, api.ErrZero
		}
		return raised(a, n.Text), api.OK
	case api.NCall:
		if n.Text == "abs" {
			return new(big.Rat).Abs(a), api.OK
		}
		return rooted(a)
	}
	return a, api.OK
}

// model: what Steps should say of a tree whose dimensions go together.
func model(h *house.House, t api.Tree, l []api.Bound) ([]api.Quant, api.Errno, int) {
	dims, why, at := infer.Dims(h, t, l)
	if why != api.OK {
		return nil, why, at
	}
	all, steps := make([]*big.Rat, len(t.Nodes)), make([]api.Quant, len(t.Nodes))
	for i := range t.Nodes {
		v, e := comes(h, t, l, i, all)
		if e != api.OK {
			return nil, e, i
		}
		r, e := told(v)
		if e != api.OK {
			return nil, e, i
		}
		all[i], steps[i] = v, api.Quant{Value: r, Dim: dims[i]}
	}
	return steps, api.OK, 0
}

// modelTold: what Told should say.
func modelTold(t *testing.T, h *house.House, x api.Tree, l []api.Bound) (api.Rat, string, api.Errno, int) {
	t.Helper()
	steps, why, at := model(h, x, l)
	if why != api.OK {
		return api.Rat{}, "", why, at
	}
	end := len(x.Nodes) - 1
	last := steps[end]
	if x.Nodes[end].Kind != api.NIn {
		return last.Value, dimText(last.Dim), api.OK, 0
	}
	from := unitFrom(x)
	all, _ := syntax.Print(x)
	text := all[strings.LastIndex(all, " in ")+4:] // behind in nothing stands but the unit
	unit := tree(t, text)
	u, why, at := infer.Unit(h, unit)
	if why != api.OK {
		return api.Rat{}, "", why, from + at
	}
	v := new(big.Rat).Sub(bigOf(last.Value), bigOf(u.Offset))
	r, why := told(v.Quo(v, bigOf(u.Factor)))
	if why != api.OK {
		return api.Rat{}, "", why, end
	}
	return r, text, api.OK, 0
}

func dimText(d api.Dim) string {
	var parts []string
	for i, exp := range d {
		switch {
		case exp == 1:
			parts = append(parts, string("LMTIHNJB"[i]))
		case exp != 0:
			parts = append(parts, fmt.Sprintf("%c^%d", "LMTIHNJB"[i], exp))
		}
	}
	if len(parts) == 0 {
		return "1"
	}
	return strings.Join(parts, " ")
}

// checkAll: all three calls against the model; what it says.
func checkAll(t *testing.T, h *house.House, x api.Tree, l []api.Bound) api.Errno {
	t.Helper()
	text, _ := syntax.Print(x)
	want, why, place := model(h, x, l)
	got, e, at := exact.Steps(h, x, l)
	if !slices.Equal(got, want) || e != why || at != place {
		t.Errorf("Steps(%.300q) = %s, %d, %d, not %s, %d, %d", text, short(got), e, at, short(want), why, place)
	}
	last := api.Quant{}
	if why == api.OK {
		last = want[len(want)-1]
	}
	if q, e, at := exact.Eval(h, x, l); q != last || e != why || at != place {
		t.Errorf("Eval(%.300q) = %s, %d, %d, not %s, %d, %d", text, short(q), e, at, short(last), why, place)
	}
	value, unit, why, place := modelTold(t, h, x, l)
	if v, u, e, at := exact.Told(h, x, l); v != value || u != unit || e != why || at != place {
		t.Errorf("Told(%.300q) = %s, %q, %d, %d, not %s, %q, %d, %d", text, short(v), u, e, at, short(value), unit, why, place)
	}
	return why
}

// variables: some of each dimension that is grown; the second x, and a scale's name, too.
func variables() []api.Bound {
	return []api.Bound{bound("x", "3/2", api.Dim{1}), bound("y", "-7", api.Dim{0, 0, 1}), bound("q", "0", api.Dim{}), bound("x", "5", api.Dim{}), bound("p", "-1/3", api.Dim{}), bound("degF", "4", api.Dim{0, 0, 0, 0, 1})}
}

// grown: an expression of chance; meant is the dimension for which it aims.
func grown(r *rand.Rand, meant, most int, odd bool) string {
	if most <= 0 || r.Intn(8) == 0 {
		return grownLeaf(r, meant, odd)
	}
	part := func(meant int) string { return "(" + grown(r, meant, most-1-r.Intn(2), odd) + ")" }
	switch r.Intn(9) {
	case 0, 1:
		return part(meant) + pick(r, " + ", " - ") + part(meant)
	case 2:
		return part(meant) + pick(r, " * ", " / ") + part(0)
	case 3:
		return part(0) + " * " + part(meant)
	case 4:
		return "-" + part(meant)
	case 5:
		if r.Intn(3) == 0 && meant == 0 {
			return "sqrt(" + part(0) + ")"
		}
		return "sqrt(" + part(meant) + "^2)"
	case 6:
		return "abs(" + part(meant) + ")"
	case 7:
		if meant == 0 {
			return part(0) + "^" + pick(r, "1", "2", "3", "0", "-1", "-2", "40", pick(r, "5", "6", "7", "8", "4096"))
		}
		return part(meant) + "^1"
	}
	return grownLeaf(r, meant, odd) + pick(r, " + ", " - ") + part(meant)
}

// grownLeaf: of no dimension, of a length, a time, a temperature; seldom of anything.
func grownLeaf(r *rand.Rand, meant int, odd bool) string {
	n := pick(r, "2", "0", "1.5(2)", "4/9", "-3", "007", "1e-3", "9", "2.25", pick(r, "1e300", "1e-400", "12345678901234567890", "7"))
	if r.Intn(60) == 0 {
		meant = r.Intn(4)
	}
	if odd {
		switch meant {
		case 1:
			return pick(r, n+" m", n+" km", "x", "m", n+" small", n+" big", "c * (2 s)", n+" meter")
		case 2:
			return pick(r, n+" s", "s", "y", "1 m / c", "ks")
		case 3:
			return pick(r, n+" K", n+" C", n+" o", n+" z", "1e300 q", n+" q", "K")
		}
		return pick(r, n, n, "q", "p", "half", "third", "neg", "one", "ev / (m^4)", "ro / (m^2)", "nil / (m^2)", pick(r, "mu / (m^2)", "le / m^2"), n+" m / (2 m)")
	}
	switch meant {
	case 1:
		return pick(r, n+" m", n+" km", "x", "m", "mi", n+" yd", "light * (2 s)")
	case 2:
		return pick(r, n+" s", "s", "y", n+" h", "1 m / light")
	case 3:
		return pick(r, n+" K", n+" \u00b0C", n+" \u00b0F", n+" degF", "K", "degF")
	}
	return pick(r, n, n, "q", "p", n+" m / (2 m)", n+" kB / (1 b)", "electron / kg", "gas mol K / J")
}

// grownWhole: likewise, perhaps told in a unit.
func grownWhole(r *rand.Rand, odd bool) string {
	meant := r.Intn(4)
	text := grown(r, meant, r.Intn(6), odd)
	if r.Intn(3) > 0 {
		return text
	}
	unit := [][]string{{"1", "2 m / m", "m^0", "7", "half", "rad"}, {"m", "km", "100 km", "2(1) m", "m^2 / (2 m)", "x", "m * 0", "m / 0", "0^-1 m", "big", "small", "mi"}, {"s", "h", "0 s", "ks", "1e-5 s"}, {"K", "\u00b0C", "\u00b0F", "C", "o", "q", "2 K", "degF", "K^1"}}[meant]
	return text + " in " + pick(r, unit...)
}
