package house_test

import (
	"math/big"
	"reflect"
	"slices"
	"strings"

	"cubit/api"
	"cubit/names"
)

// model: a list of declarations as the chapter has it, in its own words and without regard to time.
type model struct {
	l []api.Decl
}

func (m model) isUnit(i int) bool { return slices.Contains([]int{1, 2, 3}, m.l[i].Kind) }

// rightNumber: is it a right number, by package math/big?
func rightNumber(r api.Rat) (*big.Rat, bool) {
	num, ok := new(big.Int).SetString(r.Num, 10)
	den, okToo := new(big.Int).SetString(r.Den, 10)
	if !ok || !okToo || den.Sign() <= 0 {
		return nil, false
	}
	v := new(big.Rat).SetFrac(num, den)
	told, e := told(v)
	return v, e == api.OK && told == r
}

// told: a number, if it is not too large.
func told(v *big.Rat) (api.Rat, api.Errno) {
	num, den := v.Num().String(), v.Denom().String()
	if len(strings.TrimPrefix(num, "-")) > 600 || len(den) > 600 {
		return api.Rat{}, api.ErrLarge
	}
	return api.Rat{Num: num, Den: den}, api.OK
}

// form: round 1, field by field.
func (m model) form(i int) api.Errno {
	fields := map[int]string{1: "Name Symbol Dim Factor Takes", 2: "Name Symbol Factor Parts Takes", 3: "Name Symbol Of Factor Offset", 4: "Name Of", 5: "Name Symbol Factor Takes", 6: "Name Symbol Factor Spread Parts"}
	d := m.l[i]
	has, ok := fields[d.Kind]
	if !ok {
		return api.ErrForm
	}
	v := reflect.ValueOf(d)
	for n := range v.NumField() {
		name, f := v.Type().Field(n).Name, v.Field(n)
		if name == "Kind" {
			continue
		}
		if !slices.Contains(strings.Fields(has), name) {
			if !f.IsZero() && (f.Kind() != reflect.Slice || f.Len() > 0) {
				return api.ErrForm
			}
			continue
		}
		if !fieldRight(d, name, f.Interface()) {
			return api.ErrForm
		}
	}
	return api.OK
}

func fieldRight(d api.Decl, name string, value any) bool {
	switch x := value.(type) {
	case string:
		return names.Right(x)
	case api.Rat:
		number, right := rightNumber(x)
		if !right {
			return false
		}
		if name == "Factor" && d.Kind != api.DConst {
			return number.Sign() > 0
		}
		return name != "Spread" || number.Sign() >= 0
	case api.Dim:
		ones, others := 0, 0
		for _, exp := range x {
			switch exp {
			case 0:
			case 1:
				ones++
			default:
				others++
			}
		}
		return ones == 1 && others == 0
	case []api.Part:
		wrong := func(p api.Part) bool { return !names.Right(p.Name) || p.Exp == 0 || p.Exp > 99 || p.Exp < -99 }
		return len(x) <= 64 && !slices.ContainsFunc(x, wrong)
	case int:
		if d.Kind == api.DPrefix {
			return x == 1 || x == 2
		}
		return x >= 0 && x <= 3
	}
	return false
}

// brings: the words of a declaration.
func (m model) brings(i int) []string {
	if m.l[i].Kind == api.DAlias {
		return []string{m.l[i].Name}
	}
	return []string{m.l[i].Name, m.l[i].Symbol}
}

func (m model) twice(i int) api.Errno {
	for j := range i {
		if (m.l[i].Kind == api.DPrefix) == (m.l[j].Kind == api.DPrefix) {
			for _, word := range m.brings(i) {
				if slices.Contains(m.brings(j), word) {
					return api.ErrTwice
				}
			}
		}
		if m.l[i].Kind == api.DBase && m.l[j].Kind == api.DBase && m.l[i].Dim == m.l[j].Dim {
			return api.ErrTwice
		}
	}
	return api.OK
}

func (m model) full(i int) api.Errno {
	ahead := 0
	for j := range i {
		if m.l[i].Kind == m.l[j].Kind || m.isUnit(i) && m.isUnit(j) {
			ahead++
		}
	}
	most := map[int]int{1: 512, 2: 512, 3: 512, 4: 1024, 5: 64, 6: 512}[m.l[i].Kind]
	if ahead >= most {
		return api.ErrFull
	}
	return api.OK
}

// unitOf: the declaration of the unit whose Name or Symbol a word is.
func (m model) unitOf(word string) (int, bool) {
	for i, d := range m.l {
		if m.isUnit(i) && (d.Name == word || d.Symbol == word) {
			return i, true
		}
	}
	return 0, false
}

// ownWord: whether a word is a word of something that is no prefix; of which unit, if it is one's; by which other name, if it is one (else -1).
func (m model) ownWord(word string) (is bool, unit, by int) {
	for i, d := range m.l {
		if d.Kind == api.DPrefix || !slices.Contains(m.brings(i), word) {
			continue
		}
		switch {
		case m.isUnit(i):
			return true, i, -1
		case d.Kind == api.DAlias:
			if u, ok := m.unitOf(d.Of); ok {
				return true, u, i
			}
		}
		return true, -1, -1
	}
	return false, -1, -1
}

// way: how a word is read: a prefix (-1: none) and a unit, and by which other name (-1: by none).
type way struct{ prefix, unit, by int }

// ways: all of them, as the chapter has it: by putting words behind one another.
func (m model) ways(word string) []way {
	if is, unit, by := m.ownWord(word); is {
		if unit < 0 {
			return nil
		}
		return []way{{-1, unit, by}}
	}
	var l []way
	for p, d := range m.l {
		if d.Kind != api.DPrefix {
			continue
		}
		symbols := []string{d.Symbol}
		if d.Symbol == "\u03bc" {
			symbols = append(symbols, "u")
		}
		for i, u := range m.l {
			if !m.isUnit(i) || u.Takes != api.AnyPrefix && u.Takes != d.Takes {
				continue
			}
			if d.Name+u.Name == word {
				l = append(l, way{p, i, -1})
			}
			for _, s := range symbols {
				if s+u.Symbol == word {
					l = append(l, way{p, i, -1})
				}
			}
			for a, other := range m.l {
				if of, ok := m.unitOf(other.Of); other.Kind == api.DAlias && ok && of == i {
					for _, s := range append(symbols, d.Name) {
						if s+other.Name == word {
							l = append(l, way{p, i, a})
						}
					}
				}
			}
		}
	}
	return l
}

// readings: of the ways, each prefix and unit once.
func readings(l []way) []way {
	var all []way
	for _, w := range l {
		w.by = 0
		if !slices.Contains(all, w) {
			all = append(all, w)
		}
	}
	return all
}

func (m model) names(i int) []string {
	d := m.l[i]
	if d.Kind == api.DScale {
		return []string{d.Of}
	}
	var l []string
	for _, p := range d.Parts {
		l = append(l, p.Name)
	}
	return l
}

func (m model) words(i int) api.Errno {
	if m.l[i].Kind == api.DAlias {
		if _, ok := m.unitOf(m.l[i].Of); !ok {
			return api.ErrUnit
		}
		return api.OK
	}
	for _, word := range m.names(i) {
		switch n := len(readings(m.ways(word))); {
		case n == 0:
			return api.ErrUnit
		case n > 1:
			return api.ErrMixed
		}
	}
	return api.OK
}

// straight: the declarations on which one leans, without those on which these lean.
func (m model) straight(i int) []int {
	if m.l[i].Kind == api.DAlias {
		u, _ := m.unitOf(m.l[i].Of)
		return []int{u}
	}
	var l []int
	for _, word := range m.names(i) {
		ways := m.ways(word)
		l = append(l, ways[0].unit)
		byOthers := slices.Collect(func(yield func(int) bool) {
			for _, w := range ways {
				if !yield(w.by) {
					return
				}
			}
		})
		if by := slices.Min(byOthers); by >= 0 {
			l = append(l, by)
		}
	}
	return l
}

// all: those on which one leans.
func (m model) all(i int) []int {
	l := m.straight(i)
	for n := 0; n < len(l); n++ {
		for _, j := range m.straight(l[n]) {
			if !slices.Contains(l, j) {
				l = append(l, j)
			}
		}
	}
	return l
}

func (m model) cycle(i int) api.Errno {
	if slices.Contains(m.all(i), i) {
		return api.ErrCycle
	}
	return api.OK
}

// amount: what a unit is made as.
type amount struct {
	dim            [8]int
	factor, offset *big.Rat
}

func number0(r api.Rat) *big.Rat {
	v, ok := rightNumber(r)
	if !ok {
		return new(big.Rat)
	}
	return v
}

func power(v *big.Rat, n int) *big.Rat {
	p := big.NewRat(1, 1)
	for range max(n, -n) {
		p.Mul(p, v)
	}
	if n < 0 {
		p.Inv(p)
	}
	return p
}

// part: what a word of a declaration comes to.
func (m model) part(word string) (amount, way) {
	w := m.ways(word)[0]
	a := m.amount(w.unit)
	if w.prefix >= 0 {
		a.factor = new(big.Rat).Mul(a.factor, number0(m.l[w.prefix].Factor))
	}
	return a, w
}

// amount: of a declaration, right or not.
func (m model) amount(i int) amount {
	d := m.l[i]
	a := amount{factor: number0(d.Factor), offset: number0(d.Offset)}
	switch d.Kind {
	case api.DBase:
		a.dim = d.Dim
	case api.DScale:
		of, _ := m.part(d.Of)
		a.dim = of.dim
		a.factor = new(big.Rat).Mul(a.factor, of.factor)
		a.offset = new(big.Rat).Mul(a.offset, of.factor)
	default:
		for _, p := range d.Parts {
			of, _ := m.part(p.Name)
			a.factor = new(big.Rat).Mul(a.factor, power(of.factor, p.Exp))
			for place, exp := range of.dim {
				a.dim[place] += p.Exp * exp
			}
		}
	}
	return a
}

// numbers: round 6, without regard to what it leans on.
func (m model) numbers(i int) api.Errno {
	d := m.l[i]
	if d.Kind == api.DAlias || d.Kind == api.DPrefix {
		return api.OK
	}
	large := false
	for _, word := range m.names(i) {
		of, w := m.part(word)
		if m.amount(w.unit).offset.Sign() != 0 {
			return api.ErrAffine
		}
		if _, e := told(of.factor); e != api.OK && w.prefix >= 0 {
			large = true
		}
	}
	a := m.amount(i)
	for _, exp := range a.dim {
		if exp > 99 || exp < -99 {
			return api.ErrExp
		}
	}
	if d.Kind != api.DConst {
		for _, v := range []*big.Rat{a.factor, a.offset, new(big.Rat).Quo(a.offset, a.factor)} {
			_, e := told(v)
			large = large || e != api.OK
		}
	}
	if large {
		return api.ErrLarge
	}
	return api.OK
}

func (m model) made(i int) api.Errno {
	for _, j := range m.all(i) {
		if m.numbers(j) != api.OK {
			return api.OK
		}
	}
	return m.numbers(i)
}

// build: what Build answers, beside the house.
func (m model) build() (api.Errno, int) {
	for _, round := range []func(int) api.Errno{m.form, m.twice, m.full, m.words, m.cycle, m.made} {
		for i := range m.l {
			if e := round(i); e != api.OK {
				return e, i
			}
		}
	}
	return api.OK, 0
}

// unit: what a house of these declarations answers to a word.
func (m model) unit(word string) (api.Unit, api.Errno) {
	folded, e, _ := names.Fold(word)
	if e != api.OK {
		return api.Unit{}, e
	}
	ways := m.ways(folded)
	switch n := len(readings(ways)); {
	case n == 0:
		return api.Unit{}, api.ErrUnit
	case n > 1:
		return api.Unit{}, api.ErrMixed
	}
	a, w := m.part(folded)
	factor, e := told(a.factor)
	if e != api.OK {
		return api.Unit{}, e
	}
	offset, _ := told(a.offset)
	d := m.l[w.unit]
	u := api.Unit{Name: d.Name, Symbol: d.Symbol, Dim: a.dim, Factor: factor, Offset: offset, Takes: d.Takes}
	if w.prefix >= 0 {
		u.Name, u.Symbol, u.Takes = m.l[w.prefix].Name+u.Name, m.l[w.prefix].Symbol+u.Symbol, 0
	}
	return u, api.OK
}
