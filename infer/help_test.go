package infer_test

import (
	"fmt"
	"math/big"
	"math/rand"
	"slices"
	"strconv"
	"strings"
	"testing"

	"cubit/api"
	"cubit/decl"
	"cubit/house"
	"cubit/infer"
	"cubit/rat"
	"cubit/syntax"
)

// short: a thing as text, but not all of it.
func short(v any) string { return fmt.Sprintf("%.400s", fmt.Sprintf("%+v", v)) }

func pick[T any](r *rand.Rand, l ...T) T { return l[r.Intn(len(l))] }

func ownHouse(t testing.TB) *house.House {
	t.Helper()
	h, e := house.Own()
	if e != api.OK {
		t.Fatal(e)
	}
	return h
}

// oddities: dam is a decametre and a deciam; hbig is too large; celsius is a scale, zero is none; constants have all kinds of units.
const oddities = `base metre m L 1 si
base second s T 1 si
base kelvin K H 1 none
prefix deca da 10 si
prefix deci d 1/10 si
prefix huge h 1e599 si
unit am am 2 si m
unit big big 1e10 si m
unit far far 3 none m^60
unit half half 1/2 none
scale celsius C 1 5463/20 K
scale zero z 2 0 K
const speed c 299792458 0 m s^-1
const none one 7 0
const tour t 1 0 m^99 m^99 m^-99 dm^-1
const reach re 1/3 1 far^2 m^-30
const warm w 0 0 z
alias meter m
alias centigrade C
`

func oddHouse(t testing.TB) *house.House {
	t.Helper()
	l, e, at := decl.Parse(oddities)
	if e != api.OK {
		t.Fatal(e, at)
	}
	h, e, at := house.Build(l)
	if e != api.OK {
		t.Fatal(e, at)
	}
	return h
}

func tree(t testing.TB, text string) api.Tree {
	t.Helper()
	x, e, at := syntax.Parse(text)
	if e != api.OK {
		t.Fatalf("Parse(%.200q): %d at %d", text, e, at)
	}
	return x
}

func bound(name string, d api.Dim) api.Bound {
	return api.Bound{Name: name, Value: api.Meas{Value: rat.Of(1)}, Dim: d}
}

// parents: of each node the one whose kid it is (-1: of the last one none).
func parents(t api.Tree) []int {
	l := make([]int, len(t.Nodes))
	for i, n := range t.Nodes {
		for _, kid := range []int{n.A, n.B} {
			if kid >= 0 {
				l[kid] = i
			}
		}
	}
	l[len(l)-1] = -1
	return l
}

// unitFrom: the first node of the unit of NIn, in a tree that is right.
func unitFrom(t api.Tree) int {
	end := len(t.Nodes) - 1
	if t.Nodes[end].Kind != api.NIn {
		return end + 1
	}
	return t.Nodes[end].A + 1
}

// mayBeScale: the two places of a scale's name, in the chapter's words.
func mayBeScale(t api.Tree, up []int, i int) bool {
	p := up[i]
	if p < 0 || t.Nodes[p].B != i {
		return false
	}
	if t.Nodes[p].Kind == api.NIn {
		return true
	}
	a := t.Nodes[max(t.Nodes[p].A, 0)]
	number := a.Kind == api.NNumber || a.Kind == api.NNeg && t.Nodes[a.A].Kind == api.NNumber
	if t.Nodes[p].Kind != api.NMul || !number {
		return false
	}
	q := up[p]
	if q < 0 {
		return true
	}
	above := t.Nodes[q]
	return above.Kind == api.NAdd || above.Kind == api.NSub || above.Kind == api.NIn && above.A == p
}

func rightDim(d api.Dim) bool {
	for _, n := range d {
		if n < -99 || n > 99 {
			return false
		}
	}
	return true
}

func isScale(u api.Unit) bool { return u.Offset != rat.Of(0) }

// naming: a name's dimension, or its error, in the chapter's words.
func naming(h *house.House, t api.Tree, up []int, l []api.Bound, i int) (api.Dim, api.Errno) {
	word, inUnit := t.Nodes[i].Text, i >= unitFrom(t)
	if at := slices.IndexFunc(l, func(b api.Bound) bool { return b.Name == word }); at >= 0 && !inUnit {
		return l[at].Dim, api.OK
	}
	u, e := h.Unit(word)
	if e == api.ErrMixed || e == api.ErrLarge {
		return api.Dim{}, e
	}
	if e == api.OK {
		if isScale(u) && !mayBeScale(t, up, i) {
			return api.Dim{}, api.ErrAffine
		}
		return u.Dim, api.OK
	}
	if inUnit {
		return api.Dim{}, api.ErrUnit
	}
	c, e := h.Const(word)
	if e != api.OK {
		return api.Dim{}, api.ErrName
	}
	d := api.Dim{}
	for _, part := range strings.Split(c.Unit, " ") {
		if part == "" {
			continue
		}
		if !strings.Contains(part, "^") {
			part += "^1"
		}
		word, power, _ := strings.Cut(part, "^")
		u, _ := h.Unit(word)
		n, _ := strconv.Atoi(power)
		for k := range d {
			d[k] += n * u.Dim[k]
		}
	}
	return d, api.OK
}

// model: what Dims should say of a tree that is right, node after node.
func model(h *house.House, t api.Tree, l []api.Bound) ([]api.Dim, api.Errno, int) {
	up, dims := parents(t), make([]api.Dim, len(t.Nodes))
	for i, n := range t.Nodes {
		d, e := api.Dim{}, api.OK
		a, b := api.Dim{}, api.Dim{}
		if n.A >= 0 {
			a = dims[n.A]
		}
		if n.B >= 0 {
			b = dims[n.B]
		}
		switch n.Kind {
		case api.NName:
			d, e = naming(h, t, up, l, i)
		case api.NNeg:
			d = a
		case api.NAdd, api.NSub, api.NIn:
			if a != b {
				return nil, api.ErrDim, n.B
			}
			d = a
		case api.NMul, api.NQuo, api.NPow:
			d = combined(n, a, b)
		case api.NCall:
			d, e = called(n.Text, a)
		}
		if e == api.OK && !rightDim(d) {
			e = api.ErrExp
		}
		if e != api.OK {
			return nil, e, i
		}
		dims[i] = d
	}
	return dims, api.OK, 0
}

func combined(n api.Node, a, b api.Dim) api.Dim {
	d := api.Dim{}
	power, _ := strconv.Atoi(n.Text)
	for k := range d {
		switch n.Kind {
		case api.NMul:
			d[k] = a[k] + b[k]
		case api.NQuo:
			d[k] = a[k] - b[k]
		case api.NPow:
			d[k] = a[k] * power
		}
	}
	return d
}

func called(text string, a api.Dim) (api.Dim, api.Errno) {
	if text == "abs" {
		return a, api.OK
	}
	for k := range a {
		if a[k]%2 != 0 {
			return api.Dim{}, api.ErrRoot
		}
		a[k] /= 2
	}
	return a, api.OK
}

// checkDims: Dims and Dim against the model.
func checkDims(t *testing.T, h *house.House, x api.Tree, l []api.Bound) ([]api.Dim, api.Errno) {
	t.Helper()
	want, why, place := model(h, x, l)
	got, e, at := infer.Dims(h, x, l)
	if !slices.Equal(got, want) || e != why || at != place {
		text, _ := syntax.Print(x)
		t.Errorf("Dims(%.300q) = %s, %d, %d, not %s, %d, %d", text, short(got), e, at, short(want), why, place)
	}
	last := api.Dim{}
	if why == api.OK {
		last = want[len(want)-1]
	}
	if d, e, at := infer.Dim(h, x, l); d != last || e != why || at != place {
		t.Errorf("Dim = %v, %d, %d, not %v, %d, %d", d, e, at, last, why, place)
	}
	return want, why
}

// joining: what Unit should say of a tree that is right and is not one name alone.
func joining(h *house.House, t api.Tree) (api.Unit, api.Errno, int) {
	dims, factors := make([]api.Dim, len(t.Nodes)), make([]*big.Rat, len(t.Nodes))
	for i, n := range t.Nodes {
		f, e := new(big.Rat), api.OK
		switch n.Kind {
		case api.NNumber:
			if _, ok := f.SetString(n.Text); !ok || f.Sign() == 0 {
				e = api.ErrForm
			}
		case api.NName:
			u, why := h.Unit(n.Text)
			if e = why; e == api.OK && isScale(u) {
				e = api.ErrAffine
			}
			if e == api.OK {
				f.SetString(u.Factor.Num + "/" + u.Factor.Den)
				dims[i] = u.Dim
			}
		case api.NMul:
			f.Mul(factors[n.A], factors[n.B])
			dims[i] = combined(n, dims[n.A], dims[n.B])
		case api.NQuo:
			f.Quo(factors[n.A], factors[n.B])
			dims[i] = combined(n, dims[n.A], dims[n.B])
		case api.NPow:
			f = raised(factors[n.A], n.Text)
			dims[i] = combined(n, dims[n.A], api.Dim{})
		default:
			e = api.ErrForm
		}
		switch {
		case e != api.OK:
			return api.Unit{}, e, i
		case !rightDim(dims[i]):
			return api.Unit{}, api.ErrExp, i
		case len(f.Num().String()) > 600 || len(f.Denom().String()) > 600:
			return api.Unit{}, api.ErrLarge, i
		}
		factors[i] = f
	}
	end := len(t.Nodes) - 1
	return api.Unit{Dim: dims[end], Factor: api.Rat{Num: factors[end].Num().String(), Den: factors[end].Denom().String()}, Offset: rat.Of(0)}, api.OK, 0
}

func raised(f *big.Rat, text string) *big.Rat {
	n, _ := strconv.Atoi(text)
	if n < 0 {
		f, n = new(big.Rat).Inv(f), -n
	}
	e := big.NewInt(int64(n))
	return new(big.Rat).SetFrac(new(big.Int).Exp(f.Num(), e, nil), new(big.Int).Exp(f.Denom(), e, nil))
}

// spoken: words of a house, and words that are none.
func spoken(r *rand.Rand, odd bool) string {
	if odd {
		return pick(r, "m", "s", "K", "km", "dm", "dam", "hbig", "big", "far", "half", "C", "celsius", "centigrade", "z", "meter", "c", "one", "t", "re", "w", "x", "y", "q", "foo")
	}
	return pick(r, "m", "s", "kg", "km", "h", "\u00b0C", "\u00b0F", "K", "degC", "light", "gravity", "rgas", "N", "J", "rad", "mi", "x", "y", "q", "foo", "kmi", "sqrt")
}

// grown: an expression of chance; meant is the dimension for which it aims.
func grown(r *rand.Rand, meant, most int, odd bool) string {
	if most <= 0 || r.Intn(8) == 0 {
		return grownLeaf(r, meant, odd)
	}
	part := func(meant int) string { return "(" + grown(r, meant, most-1-r.Intn(2), odd) + ")" }
	switch r.Intn(9) {
	case 0:
		return part(meant) + pick(r, " + ", " - ") + part(meant)
	case 1:
		return part(meant) + pick(r, " * ", " / ") + part(0)
	case 2:
		return part(0) + " * " + part(meant)
	case 3:
		return part(1) + pick(r, " / ", " * ") + part(pick(r, 1, 2))
	case 4:
		return "-" + part(meant)
	case 5:
		return "sqrt(" + part(meant) + pick(r, "^2", "^2", "^4", "^3", "") + ")"
	case 6:
		return "abs(" + part(meant) + ")"
	case 7:
		return part(meant) + "^" + pick(r, "1", "1", "2", "0", "-1", "60", "4096")
	}
	return grownLeaf(r, meant, odd) + " + " + part(meant)
}

// grownLeaf: of no dimension, of a length, a time, a temperature; or of anything.
func grownLeaf(r *rand.Rand, meant int, odd bool) string {
	number := pick(r, "2", "0", "1.5(2)", "1e300", "-3", "007")
	if r.Intn(30) == 0 {
		return number + " " + spoken(r, odd)
	}
	if r.Intn(40) == 0 {
		return spoken(r, odd)
	}
	scale := pick(r, "K", "\u00b0C", "\u00b0F", "degC")
	if odd {
		scale = pick(r, "K", "C", "z", "centigrade", "w")
	}
	switch meant {
	case 1:
		return pick(r, number+" m", number+" km", "x", "m", "meter")
	case 2:
		return pick(r, number+" s", "s", "y", "q s")
	case 3:
		return pick(r, number+" "+scale, number+" "+scale, "K")
	}
	return pick(r, number, "q", number+" m / (1 m)")
}

// grownWhole: likewise, perhaps told in a unit.
func grownWhole(r *rand.Rand, odd bool) string {
	meant := r.Intn(4)
	text := grown(r, meant, r.Intn(6), odd)
	if r.Intn(3) > 0 {
		return text
	}
	unit := [][]string{{"1", "2 m / m", "m^0", "%"}, {"m", "km", "100 km", "2(1) m", "m^2 / (2 m)", "x"}, {"s", "h", "0 s"}, {"K", "\u00b0C", "\u00b0F", "C", "celsius", "2 K", "K^1", "2 \u00b0C", "C^1"}}[meant]
	if r.Intn(10) == 0 {
		unit = []string{spoken(r, odd)}
	}
	return text + " in " + pick(r, unit...)
}
