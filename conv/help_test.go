package conv_test

import (
	"fmt"
	"math"
	"math/big"
	"math/rand"
	"slices"
	"strings"
	"testing"

	"cubit/api"
	"cubit/decl"
	"cubit/house"
	"cubit/infer"
	"cubit/rat"
	"cubit/syntax"
)

// short: a thing as text, but not all of it.
func short(v any) string { return fmt.Sprintf("%.400s", fmt.Sprintf("%+v", v)) }

func pick[T any](r *rand.Rand, l ...T) T { return l[r.Intn(len(l))] }

func ownHouse(t testing.TB) *house.House {
	t.Helper()
	h, e := house.Own()
	if e != api.OK {
		t.Fatal(e)
	}
	return h
}

// oddities: factors that no float, or only 0, is nearest to; scales whose numbers are large, or large only on the way; words with two readings, or too large.
const oddities = `base metre m L 1 si
base second s T 1 si
base kelvin K H 1 none
prefix kilo k 1000 si
prefix deca da 10 si
prefix deci d 1/10 si
prefix huge h 1e599 si
unit am am 2 si m
unit big big 1e300 si m
unit huge huge 1e400 none m
unit most most 1e599 none m
unit small small 1e-300 none m
unit tiny tiny 1e-400 none m
unit least least 1e-599 none m
unit third third 1/3 none m
unit one one 1 none
scale celsius C 1 5463/20 K
scale odd o 3/7 -22/5 K
scale grand g 1e308 -1e308 K
scale wide w 1e200 1e350 K
scale broad r 1e400 1 K
scale fine f 1e-400 1/10 K
scale back b 1e300 -9e599 K
scale faint fa 1 -1e-400 K
const speed c 299792458 0 m s^-1
alias meter m
alias centigrade C
`

func oddHouse(t testing.TB) *house.House {
	t.Helper()
	l, e, at := decl.Parse(oddities)
	if e != api.OK {
		t.Fatal(e, at)
	}
	h, e, at := house.Build(l)
	if e != api.OK {
		t.Fatal(e, at)
	}
	return h
}

// number: of a text as rat reads it.
func number(text string) api.Rat {
	v, e, _ := rat.Parse(text)
	if e != api.OK {
		panic("no number: " + text)
	}
	return v
}

// meas: a value, and its sources: a name, its By, and so on.
func meas(v string, l ...string) api.Meas {
	m := api.Meas{Value: number(v)}
	for i := 0; i < len(l); i += 2 {
		m.Sources = append(m.Sources, api.Source{Name: l[i], By: number(l[i+1])})
	}
	return m
}

func sameMeas(a, b api.Meas) bool { return a.Value == b.Value && slices.Equal(a.Sources, b.Sources) }

func bigOf(r api.Rat) *big.Rat {
	v, ok := new(big.Rat).SetString(r.Num + "/" + r.Den)
	if !ok {
		panic("no number: " + r.Num + "/" + r.Den)
	}
	return v
}

// told: a number, or ErrLarge.
func told(v *big.Rat) (api.Rat, api.Errno) {
	num, den := v.Num().String(), v.Denom().String()
	if len(strings.TrimPrefix(num, "-")) > 600 || len(den) > 600 {
		return api.Rat{}, api.ErrLarge
	}
	return api.Rat{Num: num, Den: den}, api.OK
}

// unit: what Unit should say.
func unit(h *house.House, text string) (api.Unit, api.Errno, int) {
	if h == nil {
		return api.Unit{}, api.ErrNil, 0
	}
	x, e, at := syntax.Parse(text)
	if e != api.OK {
		return api.Unit{}, e, at
	}
	u, e, node := infer.Unit(h, x)
	if e != api.OK {
		return api.Unit{}, e, x.Nodes[node].At
	}
	return u, api.OK, 0
}

// units: two of one dimension, or why there are not.
func units(h *house.House, from, to string) (a, b api.Unit, e api.Errno) {
	a, e, _ = unit(h, from)
	if e != api.OK {
		return a, b, e
	}
	b, e, _ = unit(h, to)
	if e == api.OK && a.Dim != b.Dim {
		e = api.ErrDim
	}
	return a, b, e
}

// coherent: what x of a unit are. counted: how many of a unit x are.
func coherent(x *big.Rat, u api.Unit) *big.Rat {
	v := new(big.Rat).Mul(x, bigOf(u.Factor))
	return v.Add(v, bigOf(u.Offset))
}

func counted(x *big.Rat, u api.Unit) *big.Rat {
	v := new(big.Rat).Sub(x, bigOf(u.Offset))
	return v.Quo(v, bigOf(u.Factor))
}

// to: what To should say of a number that is right.
func to(h *house.House, x api.Rat, from, into string) (api.Rat, api.Errno) {
	a, b, e := units(h, from, into)
	if e != api.OK {
		return api.Rat{}, e
	}
	return told(counted(coherent(bigOf(x), a), b))
}

// uncertain: what Unc should say of a value that is right.
func uncertain(h *house.House, m api.Meas, from, into string) (api.Meas, api.Errno) {
	v, e := to(h, m.Value, from, into)
	if e != api.OK {
		return api.Meas{}, e
	}
	a, b, _ := units(h, from, into)
	out := api.Meas{Value: v}
	for _, s := range m.Sources {
		by := new(big.Rat).Mul(bigOf(s.By), bigOf(a.Factor))
		told, e := told(by.Quo(by, bigOf(b.Factor)))
		if e != api.OK {
			return api.Meas{}, e
		}
		out.Sources = append(out.Sources, api.Source{Name: s.Name, By: told})
	}
	return out, api.OK
}

// nearest: rounded once; below: has it the sign -, also where it is of no size?
func nearest(v *big.Rat, below bool) (float64, api.Errno) {
	f, _ := new(big.Rat).Abs(v).Float64()
	if math.IsInf(f, 0) {
		return 0, api.ErrInf
	}
	if below {
		f = math.Copysign(f, -1)
	}
	return f, api.OK
}

func exactly(f float64) *big.Rat { return new(big.Rat).SetFloat64(f) }

func minus(f float64) bool { return math.Signbit(f) }

func sum(a, b float64) (float64, api.Errno) {
	v := new(big.Rat).Add(exactly(a), exactly(b))
	return nearest(v, v.Sign() < 0 || v.Sign() == 0 && minus(a) && minus(b))
}

// floated: what Float should say of a finite float, step by step in rational numbers, each rounded once.
func floated(h *house.House, f float64, from, into string) (float64, api.Errno) {
	a, b, e := units(h, from, into)
	if e != api.OK {
		return 0, e
	}
	var four [4]float64
	for i, r := range []api.Rat{a.Factor, a.Offset, b.Offset, b.Factor} {
		v := bigOf(r)
		if four[i], e = nearest(v, v.Sign() < 0); e != api.OK {
			return 0, e
		}
	}
	s, e := nearest(new(big.Rat).Mul(exactly(f), exactly(four[0])), minus(f) != minus(four[0]))
	if e != api.OK {
		return 0, e
	}
	if s, e = sum(s, four[1]); e != api.OK {
		return 0, e
	}
	if s, e = sum(s, math.Copysign(four[2], map[bool]float64{true: 1, false: -1}[minus(four[2])])); e != api.OK {
		return 0, e
	}
	if four[3] == 0 {
		return 0, api.ErrZero
	}
	return nearest(new(big.Rat).Quo(exactly(s), exactly(four[3])), minus(s) != minus(four[3]))
}

// grown: a unit's text of chance; meant is the dimension for which it aims: none, a length, a speed, a temperature.
func grown(r *rand.Rand, meant int, odd bool) string {
	if r.Intn(40) == 0 {
		return pick(r, "", "m +", "m + m", "5 m )", "foo", "m in s", "dam", "hbig", "light", "c", "2(1) m", "0 m", "-m", "m^100", "sqrt(m^2)", "2 K C", "big big big", "m^99 m^99", "\u00b0C / s", "( foo )", "m $", "1e600 m")
	}
	length := func() string {
		if odd {
			return pick(r, "m", "km", "am", "meter", "big", "small", "third", "kbig", pick(r, "huge", "tiny", "most", "least"))
		}
		return pick(r, "m", "km", "mi", "yd", "meter", "nm", "\u00b5m", "ft", "inch", "metre", "um")
	}
	time := func() string {
		if odd {
			return pick(r, "s", "ks", "ds")
		}
		return pick(r, "s", "h", "min", "ms", "sec", "hr")
	}
	n := pick(r, "2", "3/7", "1e-3", "0.125", "1e50", "7")
	switch meant {
	case 1:
		return pick(r, length(), length(), n+" "+length(), length()+" * "+length()+" / "+length(), "("+length()+")", length()+"^3 / ("+n+" "+length()+"^2)", length()+" "+time()+" / "+time())
	case 2:
		return pick(r, length()+"/"+time(), length()+" "+time()+"^-1", n+" "+length()+" / "+time(), "("+length()+" / "+time()+"^2) "+time())
	case 3:
		if odd {
			return pick(r, "K", "C", "o", "g", "w", "r", "f", "b", "fa", "centigrade", n+" K", "K^2 / K")
		}
		return pick(r, "K", "\u00b0C", "\u00b0F", "degC", "degF", "\u2109", n+" K", "K^2 / K", "\u00b0R", "mK")
	}
	return pick(r, "1", n, length()+"/"+length(), time()+"^2 / ("+n+" "+time()+"^2)", "m^0", "m / m")
}

// grownPair: two texts, mostly of one dimension.
func grownPair(r *rand.Rand, odd bool) (from, to string) {
	a := r.Intn(4)
	b := a
	if r.Intn(20) == 0 {
		b = r.Intn(4)
	}
	return grown(r, a, odd), grown(r, b, odd)
}

func digits(r *rand.Rand, n int) string {
	b := []byte{byte('1' + r.Intn(9))}
	for len(b) < n {
		b = append(b, byte('0'+r.Intn(10)))
	}
	return string(b)
}

// sample: a number that is right, at times with as many digits as it may have.
func sample(r *rand.Rand) api.Rat {
	if r.Intn(3) == 0 {
		return number(pick(r, "0", "1", "-1", "36", "-7/3", "493/5", "1e599", "-1e-599", "1e300", "1e-300", "9e299"))
	}
	n := pick(r, 1, 1, 2, 5, 30, 300, 600)
	v, e := rat.New(pick(r, "", "-")+digits(r, 1+r.Intn(n)), pick(r, "1", digits(r, 1+r.Intn(n))))
	if e != api.OK {
		panic("no sample")
	}
	return v
}

func sampleMeas(r *rand.Rand) api.Meas {
	m := api.Meas{Value: sample(r)}
	for i := range r.Intn(5) {
		if by := sample(r); by.Num != "0" {
			m.Sources = append(m.Sources, api.Source{Name: "s" + string(rune('a'+i)), By: by})
		}
	}
	return m
}

func sampleFloat(r *rand.Rand) float64 {
	if r.Intn(3) == 0 {
		return pick(r, 0, math.Copysign(0, -1), 1, -1, 100, 98.6, 5e-324, -5e-324, math.MaxFloat64, -math.MaxFloat64, 1e308, 1e-300, 0.1)
	}
	for {
		f := math.Float64frombits(r.Uint64())
		if r.Intn(2) == 0 {
			f = r.NormFloat64() * 1000
		}
		if !math.IsNaN(f) && !math.IsInf(f, 0) {
			return f
		}
	}
}
