package float_test

import (
	"fmt"
	"math"
	"math/big"
	"math/rand"
	"slices"
	"strconv"
	"strings"
	"testing"

	"cubit/api"
	"cubit/decl"
	"cubit/float"
	"cubit/house"
	"cubit/infer"
	"cubit/lex"
	"cubit/rat"
	"cubit/syntax"
)

// short: a thing as text, but not all of it.
func short(v any) string { return fmt.Sprintf("%.400s", fmt.Sprintf("%+v", v)) }

func pick[T any](r *rand.Rand, l ...T) T { return l[r.Intn(len(l))] }

func ownHouse(t testing.TB) *house.House {
	t.Helper()
	h, e := house.Own()
	if e != api.OK {
		t.Fatal(e)
	}
	return h
}

// oddities: factors that no float, or only 0, is nearest to; scales with great numbers; constants below 0, of no size, too large, and large only on the way.
const oddities = `base metre m L 1 si
base second s T 1 si
base kelvin K H 1 none
prefix kilo k 1000 si
unit big big 1e300 none m
unit huge huge 1e400 none m
unit small small 1e-300 none m
unit tiny tiny 1e-400 none m
unit third third 1/3 none
scale celsius C 1 5463/20 K
scale odd o 3/7 -22/5 K
scale grand g 1e308 -1e308 K
scale wide w 1e200 1e350 K
scale broad r 1e400 1 K
scale fine f 1e-400 1/10 K
const speed c 299792458 0 m s^-1
const minus neg -5/3 1/2 third^-1
const nought nil 0 0 big^2
const much mu 1e10 0 big^2
const great gr 1e300 0 huge
const less le -1e-10 0 tiny
const round ro 1e-300 0 big^2
`

func oddHouse(t testing.TB) *house.House {
	t.Helper()
	l, e, at := decl.Parse(oddities)
	if e != api.OK {
		t.Fatal(e, at)
	}
	h, e, at := house.Build(l)
	if e != api.OK {
		t.Fatal(e, at)
	}
	return h
}

func tree(t testing.TB, text string) api.Tree {
	t.Helper()
	x, e, at := syntax.Parse(text)
	if e != api.OK {
		t.Fatal(text, e, at)
	}
	return x
}

func bound(name, value string, d api.Dim) api.Bound {
	v, e, _ := rat.Parse(value)
	if e != api.OK {
		panic("no number: " + value)
	}
	return api.Bound{Name: name, Value: api.Meas{Value: v}, Dim: d}
}

func bigOf(r api.Rat) *big.Rat {
	v, ok := new(big.Rat).SetString(r.Num + "/" + r.Den)
	if !ok {
		panic("no number: " + r.Num + "/" + r.Den)
	}
	return v
}

// nearest: rounded once; below: has it the sign -, also where it is of no size?
func nearest(v *big.Rat, below bool) (float64, api.Errno) {
	f, _ := new(big.Rat).Abs(v).Float64()
	if math.IsInf(f, 0) {
		return 0, api.ErrInf
	}
	if below {
		f = math.Copysign(f, -1)
	}
	return f, api.OK
}

// near: the float nearest to a rational number.
func near(r api.Rat) (float64, api.Errno) {
	v := bigOf(r)
	return nearest(v, v.Sign() < 0)
}

func number(f float64) *big.Rat { return new(big.Rat).SetFloat64(f) }

func minus(f float64) bool { return math.Signbit(f) }

// The steps, in rational numbers, each rounded once by itself.
func sum(a, b float64) (float64, api.Errno) {
	v := new(big.Rat).Add(number(a), number(b))
	return nearest(v, v.Sign() < 0 || v.Sign() == 0 && minus(a) && minus(b))
}

func product(a, b float64) (float64, api.Errno) {
	return nearest(new(big.Rat).Mul(number(a), number(b)), minus(a) != minus(b))
}

func quotient(a, b float64) (float64, api.Errno) {
	if b == 0 {
		return 0, api.ErrZero
	}
	return nearest(new(big.Rat).Quo(number(a), number(b)), minus(a) != minus(b))
}

func power(a float64, text string) (float64, api.Errno) {
	n, _ := strconv.Atoi(text)
	p, e := 1.0, api.OK
	for range max(n, -n) {
		if p, e = product(p, a); e != api.OK {
			return 0, e
		}
	}
	if n < 0 {
		return quotient(1, p)
	}
	return p, api.OK
}

// rooted: by far more bits than a float has, and then rounded.
func rooted(a float64) (float64, api.Errno) {
	if a < 0 {
		return 0, api.ErrDomain
	}
	if a == 0 {
		return a, api.OK
	}
	x := new(big.Float).SetPrec(300).SetFloat64(a)
	f, _ := x.Sqrt(x).Float64()
	return f, api.OK
}

func unitFrom(t api.Tree) int {
	end := len(t.Nodes) - 1
	if t.Nodes[end].Kind != api.NIn {
		return end + 1
	}
	return t.Nodes[end].A + 1
}

func variable(l []api.Bound, name string) int {
	return slices.IndexFunc(l, func(b api.Bound) bool { return b.Name == name })
}

// naming: the float of a name, in the chapter's words.
func naming(h *house.House, t api.Tree, l []api.Bound, i int) (float64, api.Errno) {
	word := t.Nodes[i].Text
	if at := variable(l, word); at >= 0 && i < unitFrom(t) {
		return near(l[at].Value.Value)
	}
	if u, e := h.Unit(word); e == api.OK {
		return near(u.Factor)
	}
	c, _ := h.Const(word)
	v := bigOf(c.Value)
	for _, part := range strings.Fields(c.Unit) {
		word, power, raised := strings.Cut(part, "^")
		if !raised {
			power = "1"
		}
		u, _ := h.Unit(word)
		n, _ := strconv.Atoi(power)
		for range max(n, -n) {
			if n < 0 {
				v.Quo(v, bigOf(u.Factor))
			} else {
				v.Mul(v, bigOf(u.Factor))
			}
		}
	}
	r := api.Rat{Num: v.Num().String(), Den: v.Denom().String()}
	if !rat.Right(r) {
		return 0, api.ErrLarge
	}
	return near(r)
}

// scaleOf: the scale of which a product is a number.
func scaleOf(h *house.House, t api.Tree, l []api.Bound, n api.Node) (api.Unit, bool) {
	b := t.Nodes[n.B]
	if b.Kind != api.NName || variable(l, b.Text) >= 0 {
		return api.Unit{}, false
	}
	u, e := h.Unit(b.Text)
	return u, e == api.OK && u.Offset != rat.Of(0)
}

func ofScale(a float64, u api.Unit) (float64, api.Errno) {
	factor, e := near(u.Factor)
	offset, why := near(u.Offset)
	if e != api.OK || why != api.OK {
		return 0, api.ErrInf
	}
	p, e := product(a, factor)
	if e != api.OK {
		return 0, e
	}
	return sum(p, offset)
}

// comes: what a node comes to, in the chapter's words.
func comes(h *house.House, t api.Tree, l []api.Bound, i int, ahead []float64) (float64, api.Errno) {
	n := t.Nodes[i]
	a, b := 0.0, 0.0
	if n.A >= 0 {
		a = ahead[n.A]
	}
	if n.B >= 0 {
		b = ahead[n.B]
	}
	switch n.Kind {
	case api.NNumber:
		v, _, _ := lex.Number(n.Text)
		return near(v)
	case api.NName:
		return naming(h, t, l, i)
	case api.NNeg:
		return math.Float64frombits(math.Float64bits(a) ^ 1<<63), api.OK
	case api.NAdd:
		return sum(a, b)
	case api.NSub:
		return sum(a, math.Float64frombits(math.Float64bits(b)^1<<63))
	case api.NMul:
		if u, is := scaleOf(h, t, l, n); is {
			return ofScale(a, u)
		}
		return product(a, b)
	case api.NQuo:
		return quotient(a, b)
	case api.NPow:
		return power(a, n.Text)
	case api.NCall:
		if n.Text == "abs" {
			return math.Float64frombits(math.Float64bits(a) &^ (1 << 63)), api.OK
		}
		return rooted(a)
	}
	return a, api.OK
}

// model: what Steps should say of a tree.
func model(h *house.House, t api.Tree, l []api.Bound) ([]api.Real, api.Errno, int) {
	dims, why, at := infer.Dims(h, t, l)
	if why != api.OK {
		return nil, why, at
	}
	all, steps := make([]float64, len(t.Nodes)), make([]api.Real, len(t.Nodes))
	for i := range t.Nodes {
		f, e := comes(h, t, l, i, all)
		if e != api.OK {
			return nil, e, i
		}
		all[i], steps[i] = f, api.Real{Bits: math.Float64bits(f), Dim: dims[i]}
	}
	return steps, api.OK, 0
}

// checkAll: both calls against the model; what it says.
func checkAll(t *testing.T, h *house.House, x api.Tree, l []api.Bound) api.Errno {
	t.Helper()
	text, _ := syntax.Print(x)
	want, why, place := model(h, x, l)
	got, e, at := float.Steps(h, x, l)
	if !slices.Equal(got, want) || e != why || at != place {
		t.Errorf("Steps(%.300q) = %s, %d, %d, not %s, %d, %d", text, short(got), e, at, short(want), why, place)
	}
	last := api.Real{}
	if why == api.OK {
		last = want[len(want)-1]
	}
	if f, e, at := float.Eval(h, x, l); f != last || e != why || at != place {
		t.Errorf("Eval(%.300q) = %s, %d, %d, not %s, %d, %d", text, short(f), e, at, short(last), why, place)
	}
	return why
}

func variables() []api.Bound {
	return []api.Bound{bound("x", "3/2", api.Dim{1}), bound("y", "-7", api.Dim{0, 0, 1}), bound("q", "0", api.Dim{}), bound("x", "5", api.Dim{}), bound("p", "-1/3", api.Dim{}), bound("degF", "4", api.Dim{0, 0, 0, 0, 1}), bound("v", "1e400", api.Dim{1})}
}

// grown: an expression of chance; meant is the dimension for which it aims.
func grown(r *rand.Rand, meant, most int, odd bool) string {
	if most <= 0 || r.Intn(8) == 0 {
		return grownLeaf(r, meant, odd)
	}
	part := func(meant int) string { return "(" + grown(r, meant, most-1-r.Intn(2), odd) + ")" }
	switch r.Intn(9) {
	case 0, 1:
		return part(meant) + pick(r, " + ", " - ") + part(meant)
	case 2:
		return part(meant) + pick(r, " * ", " / ") + part(0)
	case 3:
		return part(0) + " * " + part(meant)
	case 4:
		return "-" + part(meant)
	case 5:
		if meant == 0 {
			return "sqrt(" + part(0) + ")"
		}
		return "sqrt(" + part(meant) + "^2)"
	case 6:
		return "abs(" + part(meant) + ")"
	case 7:
		if meant == 0 {
			return part(0) + "^" + pick(r, "1", "2", "3", "0", "-1", "-2", "40", "-40", pick(r, "5", "-3", "4096", "-4096"))
		}
		return part(meant) + "^1"
	}
	return grownLeaf(r, meant, odd) + pick(r, " + ", " - ") + part(meant)
}

// grownLeaf: of no dimension, of a length, a time, a temperature; seldom of anything.
func grownLeaf(r *rand.Rand, meant int, odd bool) string {
	n := pick(r, "2", "0", "1.5(2)", "4/9", "-3", "-0", "1e-3", "9", "0.1", "0.7", pick(r, "1e300", "1e-310", "1e-400", "5e-324", "9007199254740993", "1.7976931348623157e308", "7"), pick(r, "1", "1e308", "1e309"))
	if r.Intn(60) == 0 {
		meant = r.Intn(4)
	}
	if odd {
		switch meant {
		case 1:
			return pick(r, n+" m", n+" km", "x", "m", n+" small", n+" big", "c * (2 s)", n+" tiny", pick(r, "v", n+" huge", "x"))
		case 2:
			return pick(r, n+" s", "s", "y", "1 m / c", "ks")
		case 3:
			return pick(r, n+" K", n+" C", n+" o", n+" g", n+" f", "K", pick(r, n+" w", n+" r", "2 K"))
		}
		return pick(r, n, n, "q", "p", "third", "neg", "ro / (m^2)", "nil / (m^2)", "le / m", pick(r, "mu / (m^2)", "gr / m", "q"), n+" m / (2 m)")
	}
	switch meant {
	case 1:
		return pick(r, n+" m", n+" km", "x", "m", "mi", n+" yd", "light * (2 s)", pick(r, "v", "x"))
	case 2:
		return pick(r, n+" s", "s", "y", n+" h", "1 m / light")
	case 3:
		return pick(r, n+" K", n+" \u00b0C", n+" \u00b0F", n+" degF", "K", "degF")
	}
	return pick(r, n, n, "q", "p", n+" m / (2 m)", n+" kB / (1 b)", "electron / kg", "gas mol K / J")
}

// grownWhole: likewise, perhaps told in a unit.
func grownWhole(r *rand.Rand, odd bool) string {
	meant := r.Intn(4)
	text := grown(r, meant, r.Intn(6), odd)
	if r.Intn(3) > 0 {
		return text
	}
	unit := [][]string{{"1", "2 m / m", "m^0", "7", "third", "rad"}, {"m", "km", "100 km", "2(1) m", "m^2 / (2 m)", "x", "m * 0", "m / 0", "0^-1 m", "big", "tiny", "huge", "m / tiny", "mi"}, {"s", "h", "0 s", "ks", "1e-5 s"}, {"K", "\u00b0C", "\u00b0F", "C", "o", "r", "2 K", "degF", "K^1"}}[meant]
	return text + " in " + pick(r, unit...)
}
