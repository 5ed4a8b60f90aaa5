package unc_test

import (
	"math/big"
	"math/rand"
	"slices"
	"strconv"
	"strings"
	"testing"

	"cubit/api"
	"cubit/rat"
	"cubit/unc"
)

func nines(n int) string { return strings.Repeat("9", n) }
func ten(n int) string   { return "1" + strings.Repeat("0", n) }

// num: of a text num/den, or num, as it stands there.
func num(s string) api.Rat {
	n, d, cut := strings.Cut(s, "/")
	if !cut {
		d = "1"
	}
	return api.Rat{Num: n, Den: d}
}

// meas: a value, and its sources: a name, its By, and so on.
func meas(v string, l ...string) api.Meas {
	m := api.Meas{Value: num(v)}
	for i := 0; i < len(l); i += 2 {
		m.Sources = append(m.Sources, api.Source{Name: l[i], By: num(l[i+1])})
	}
	return m
}

// many: n sources with the By 1, and names that begin with a text.
func many(name string, n int) api.Meas {
	m := meas("1")
	for i := range n {
		m.Sources = append(m.Sources, api.Source{Name: name + strconv.Itoa(1000+i), By: num("1")})
	}
	return m
}

// wrongs: values each of which breaks one rule of what is right.
func wrongs() []api.Meas {
	l := []api.Meas{{}, many("s", api.MaxSources+1)}
	for _, v := range []string{"", "/", "2/4", "-0", "0/2", "1/0", "1/-2", "+1", "01", ten(600), "1/" + ten(600)} {
		l = append(l, meas(v), meas("1", "x", v), meas("1", "a", "1", "x", v))
	}
	for _, name := range []string{"", " ", "a b", "a\x7f", "\x80", "a\n", "\u00e9", "\x00", strings.Repeat("x", api.MaxName+1)} {
		l = append(l, meas("1", name, "1"))
	}
	return append(l, meas("1", "x", "0"), meas("1", "b", "1", "a", "1"), meas("1", "a", "1", "a", "1"), meas("1", "a", "1", "a", "2"), meas("1", "ab", "1", "a", "1"), meas("1", "a", "1", "B", "1"))
}

func sameMeas(a, b api.Meas) bool { return a.Value == b.Value && slices.Equal(a.Sources, b.Sources) }

func checkMeas(t *testing.T, name string, got api.Meas, e api.Errno, want api.Meas, why api.Errno) {
	t.Helper()
	if !sameMeas(got, want) || e != why {
		t.Errorf("%s = %v, %d, not %v, %d", name, got, e, want, why)
	}
}

func checkRat(t *testing.T, name string, got api.Rat, e api.Errno, want api.Rat, why api.Errno) {
	t.Helper()
	if got != want || e != why {
		t.Errorf("%s = %v, %d, not %v, %d", name, got, e, want, why)
	}
}

// model: an uncertain value by the library's great numbers.
type model struct {
	at *big.Rat
	by map[string]*big.Rat
}

func value(r api.Rat) *big.Rat {
	v, ok := new(big.Rat).SetString(r.Num + "/" + r.Den)
	if !ok {
		panic("no number: " + r.Num + "/" + r.Den)
	}
	return v
}

func modelOf(m api.Meas) model {
	l := model{value(m.Value), map[string]*big.Rat{}}
	for _, s := range m.Sources {
		l.by[s.Name] = value(s.By)
	}
	return l
}

// of: By of a source, 0 if it has it not.
func (m model) of(name string) *big.Rat {
	if by := m.by[name]; by != nil {
		return by
	}
	return new(big.Rat)
}

// told: as the chapter has it: without By of 0, in their order, with its errors.
func (m model) told() (api.Meas, api.Errno) {
	v, e := tellRat(m.at)
	if e != api.OK {
		return api.Meas{}, e
	}
	out := api.Meas{Value: v}
	var names []string
	for name, by := range m.by {
		if by.Sign() != 0 {
			names = append(names, name)
		}
	}
	slices.Sort(names)
	for _, name := range names {
		by, e := tellRat(m.by[name])
		if e != api.OK {
			return api.Meas{}, e
		}
		out.Sources = append(out.Sources, api.Source{Name: name, By: by})
	}
	if len(names) > api.MaxSources {
		return api.Meas{}, api.ErrSource
	}
	return out, api.OK
}

func tellRat(v *big.Rat) (api.Rat, api.Errno) {
	n, d := v.Num().String(), v.Denom().String()
	if len(strings.TrimPrefix(n, "-")) > api.MaxDigits || len(d) > api.MaxDigits {
		return api.Rat{}, api.ErrLarge
	}
	return api.Rat{Num: n, Den: d}, api.OK
}

// both: a model at a value, with the By that join makes of each source of a or b.
func both(a, b model, at *big.Rat, join func(x, y *big.Rat) *big.Rat) model {
	m := model{at, map[string]*big.Rat{}}
	for _, l := range []model{a, b} {
		for name := range l.by {
			m.by[name] = join(a.of(name), b.of(name))
		}
	}
	return m
}

func add(x, y *big.Rat) *big.Rat { return new(big.Rat).Add(x, y) }
func sub(x, y *big.Rat) *big.Rat { return new(big.Rat).Sub(x, y) }
func mul(x, y *big.Rat) *big.Rat { return new(big.Rat).Mul(x, y) }
func quo(x, y *big.Rat) *big.Rat { return new(big.Rat).Quo(x, y) }

func power(x *big.Rat, n int) *big.Rat {
	p := big.NewRat(1, 1)
	for range max(n, -n) {
		p.Mul(p, x)
	}
	if n < 0 {
		p.Inv(p)
	}
	return p
}

// sample: a right value with up to most sources, out of few names, so that they meet; its numbers have up to so many digits.
func sample(r *rand.Rand, most, digits int) api.Meas {
	m := api.Meas{Value: sampleRat(r, digits)}
	for i := range r.Intn(most + 1) {
		if by := sampleRat(r, digits); by.Num != "0" && r.Intn(3) > 0 {
			m.Sources = append(m.Sources, api.Source{Name: "s" + strconv.Itoa(100+i), By: by})
		}
	}
	if !unc.Right(m) {
		panic("no sample")
	}
	return m
}

func sampleRat(r *rand.Rand, digits int) api.Rat {
	d := sampleDigits(r, digits)
	if d == "0" || r.Intn(4) == 0 {
		d = "1"
	}
	n := sampleDigits(r, digits)
	if r.Intn(2) == 0 {
		n = "-" + n
	}
	v, e := rat.New(n, d)
	if e != api.OK {
		panic("no sample")
	}
	return v
}

func sampleDigits(r *rand.Rand, most int) string {
	b := make([]byte, 1+r.Intn(most))
	for i := range b {
		b[i] = byte('0' + r.Intn(10))
	}
	if s := strings.TrimLeft(string(b), "0"); s != "" {
		return s
	}
	return "0"
}
