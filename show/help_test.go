package show_test

import (
	"fmt"
	"math/big"
	"math/rand"
	"strings"
	"testing"

	"cubit/api"
	"cubit/decl"
	"cubit/house"
	"cubit/prefix"
	"cubit/rat"
)

// short: a thing as text, but not all of it.
func short(v any) string { return fmt.Sprintf("%.300s", fmt.Sprintf("%+v", v)) }

func pick[T any](r *rand.Rand, l ...T) T { return l[r.Intn(len(l))] }

func ownHouse(t testing.TB) *house.House {
	t.Helper()
	h, e := house.Own()
	if e != api.OK {
		t.Fatal(e)
	}
	return h
}

// oddities: factors at the bounds, scales whose numbers are large only on the way, units that take each kind of prefixes, words with two readings, or too large.
const oddities = `base metre m L 1 si
base second s T 1 none
base kelvin K H 1 si
base bit b B 1 any
prefix kilo k 1000 si
prefix kibi Ki 1024 binary
prefix deca da 10 si
prefix deci d 1/10 si
prefix huge h 1e599 si
unit am am 2 si m
unit big big 1e300 si m
unit most most 1e599 si m
unit small small 1e-300 si m
unit least least 1e-599 si m
unit third third 1/3 none m
unit sixth sixth 1/6 none m
unit word wd 16 binary b
unit crumb cr 2 any b
unit one one 1 si
scale celsius C 1 5463/20 K
scale odd o 3/7 -22/5 K
scale back bk 1e300 -9e599 K
scale far fr 1/3 1e599 K
const speed c 299792458 0 m s^-1
alias meter m
alias centigrade C
`

func oddHouse(t testing.TB) *house.House {
	t.Helper()
	l, e, at := decl.Parse(oddities)
	if e != api.OK {
		t.Fatal(e, at)
	}
	h, e, at := house.Build(l)
	if e != api.OK {
		t.Fatal(e, at)
	}
	return h
}

func houses(t testing.TB) []*house.House { return []*house.House{ownHouse(t), oddHouse(t)} }

// number: of a text as rat reads it.
func number(text string) api.Rat {
	v, e, _ := rat.Parse(text)
	if e != api.OK {
		panic("no number: " + text)
	}
	return v
}

func bigOf(r api.Rat) *big.Rat {
	v, ok := new(big.Rat).SetString(r.Num + "/" + r.Den)
	if !ok {
		panic("no number: " + r.Num + "/" + r.Den)
	}
	return v
}

// kept: a number, or ErrLarge.
func kept(v *big.Rat) (api.Rat, api.Errno) {
	num, den := v.Num().String(), v.Denom().String()
	if len(strings.TrimPrefix(num, "-")) > 600 || len(den) > 600 {
		return api.Rat{}, api.ErrLarge
	}
	return api.Rat{Num: num, Den: den}, api.OK
}

func ten(exp int) *big.Rat {
	size := max(exp, -exp)
	power := new(big.Rat).SetInt(new(big.Int).Exp(big.NewInt(10), big.NewInt(int64(size)), nil))
	if exp < 0 {
		return power.Inv(power)
	}
	return power
}

// nearest: the whole number nearest to one that is not below 0; of two the even one.
func nearest(v *big.Rat) *big.Int {
	low := new(big.Int).Quo(v.Num(), v.Denom())
	rest := new(big.Rat).Sub(v, new(big.Rat).SetInt(low))
	switch order := rest.Cmp(big.NewRat(1, 2)); {
	case order > 0 || order == 0 && low.Bit(0) == 1:
		return low.Add(low, big.NewInt(1))
	}
	return low
}

// numbered: what Number should say, by the chapter's words: e is looked for from far below on.
func numbered(v *big.Rat, n int) string {
	if v.Sign() == 0 {
		return "0"
	}
	sign := ""
	if v.Sign() < 0 {
		sign = "-"
	}
	size := new(big.Rat).Abs(v)
	e := len(size.Num().String()) - len(size.Denom().String()) - 2
	for size.Cmp(ten(e+1)) >= 0 {
		e++
	}
	d := nearest(new(big.Rat).Mul(size, ten(n-1-e))).String()
	if len(d) > n {
		d, e = d[:n], e+1
	}
	if e < -5 || e >= max(n, 6) {
		point := "."
		if n == 1 {
			point = ""
		}
		return sign + d[:1] + point + d[1:] + "e" + fmt.Sprint(e)
	}
	if e >= n-1 {
		return sign + d + strings.Repeat("0", e-n+1)
	}
	for ; e < 0; e++ {
		d = "0" + d
	}
	return sign + d[:e+1] + "." + d[e+1:]
}

// inUnit: how many of a unit that is.
func inUnit(q api.Quant, u api.Unit) (api.Rat, api.Errno) {
	if !rat.Right(q.Value) {
		return api.Rat{}, api.ErrForm
	}
	if q.Dim != u.Dim {
		return api.Rat{}, api.ErrDim
	}
	v := new(big.Rat).Sub(bigOf(q.Value), bigOf(u.Offset))
	return kept(v.Quo(v, bigOf(u.Factor)))
}

// quantTold: what Quant should say.
func quantTold(h *house.House, q api.Quant, unit string, n int) (string, api.Errno) {
	if h == nil {
		return "", api.ErrNil
	}
	if n < 1 || n > 40 {
		return "", api.ErrArg
	}
	u, e := h.Unit(unit)
	if e != api.OK {
		return "", e
	}
	x, e := inUnit(q, u)
	if e != api.OK {
		return "", e
	}
	return numbered(bigOf(x), n) + " " + unit, api.OK
}

// bestTold: what Best should say.
func bestTold(h *house.House, q api.Quant, unit string, n int) (string, api.Errno) {
	if h == nil {
		return "", api.ErrNil
	}
	if n < 1 || n > 40 {
		return "", api.ErrArg
	}
	if _, e := h.Unit(unit); e != api.OK {
		return "", e
	}
	for _, u := range h.Units() {
		if u.Name != unit && u.Symbol != unit {
			continue
		}
		x, e := inUnit(q, u)
		if e != api.OK {
			return "", e
		}
		if u.Takes != api.NoPrefix {
			p, y, e := prefix.Best(x, u.Takes == api.BinPrefix)
			if e != api.OK {
				return "", e
			}
			return numbered(bigOf(y), n) + " " + p.Symbol + u.Symbol, api.OK
		}
		return numbered(bigOf(x), n) + " " + u.Symbol, api.OK
	}
	return "", api.ErrUnit
}

// mixedTold: what Mixed should say.
func mixedTold(h *house.House, q api.Quant, units []string, n int) (string, api.Errno) {
	if h == nil {
		return "", api.ErrNil
	}
	if n < 1 || n > 40 || len(units) < 1 || len(units) > 8 {
		return "", api.ErrArg
	}
	var all []api.Unit
	for i, text := range units {
		u, e := h.Unit(text)
		if e != api.OK {
			return "", e
		}
		if !rat.Right(q.Value) {
			return "", api.ErrForm
		}
		if u.Dim != q.Dim {
			return "", api.ErrDim
		}
		if u.Offset.Num != "0" {
			return "", api.ErrAffine
		}
		if i > 0 && bigOf(u.Factor).Cmp(bigOf(all[i-1].Factor)) >= 0 {
			return "", api.ErrArg
		}
		all = append(all, u)
	}
	left := bigOf(q.Value)
	sign := left.Sign()
	left.Abs(left)
	text := ""
	for i, u := range all {
		often := new(big.Rat).Quo(left, bigOf(u.Factor))
		told := ""
		if i < len(all)-1 {
			often.SetInt(new(big.Int).Quo(often.Num(), often.Denom()))
			told = often.Num().String()
		} else {
			told = numbered(often, n)
		}
		if _, e := kept(often); e != api.OK {
			return "", e
		}
		left.Sub(left, new(big.Rat).Mul(often, bigOf(u.Factor)))
		if often.Sign() != 0 || i == len(all)-1 && text == "" {
			text += " " + told + " " + units[i]
		}
	}
	text = text[1:]
	if sign < 0 {
		text = "-" + text
	}
	return text, api.OK
}

func digits(r *rand.Rand, n int) string {
	b := []byte{byte('1' + r.Intn(9))}
	for len(b) < n {
		b = append(b, byte('0'+r.Intn(10)))
	}
	return string(b)
}

// sample: a number that is right, at times with as many digits as it may have, or nearly a power of ten.
func sample(r *rand.Rand) api.Rat {
	switch r.Intn(4) {
	case 0:
		return number(pick(r, "0", "1", "-1", "36", "-7/3", "493/5", "1e599", "-1e-599", "1e300", "1e-300", "9e299", "999.5", "-0.5", "1024", "1023", "1000", "1e6", "999999.5", "9995", "5280"))
	case 1:
		e := r.Intn(24) - 12
		v := new(big.Rat).Mul(ten(e), new(big.Rat).Sub(big.NewRat(1, 1), new(big.Rat).Mul(big.NewRat(int64(r.Intn(3)-1), int64(1+r.Intn(2))), ten(-r.Intn(6)))))
		x, _ := kept(v)
		return x
	}
	n := pick(r, 1, 1, 2, 5, 30, 300, 600)
	v, e := rat.New(pick(r, "", "-")+digits(r, 1+r.Intn(n)), pick(r, "1", digits(r, 1+r.Intn(n))))
	if e != api.OK {
		panic("no sample")
	}
	return v
}

// wrongs: numbers that are not right.
func wrongs() []api.Rat {
	return []api.Rat{{}, {Num: "2", Den: "4"}, {Num: "-0", Den: "1"}, {Num: "1", Den: "0"}, {Num: "1", Den: "-1"}, {Num: "1" + strings.Repeat("0", 600), Den: "1"}, {Num: "01", Den: "1"}, {Num: "0", Den: "2"}, {Num: "1", Den: "1" + strings.Repeat("0", 600)}}
}
