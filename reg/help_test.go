package reg_test

import (
	"math/rand"
	"slices"
	"strconv"
	"strings"
	"testing"

	"cubit/api"
	"cubit/names"
	"cubit/prefix"
	"cubit/rat"
	"cubit/reg"
)

func metre() api.Unit {
	return api.Unit{Name: "metre", Symbol: "m", Dim: api.Dim{1}, Factor: rat.Of(1), Offset: rat.Of(0), Takes: api.SiPrefix}
}

func unit(name, symbol string, takes int) api.Unit {
	return api.Unit{Name: name, Symbol: symbol, Dim: api.Dim{0, 1}, Factor: rat.Of(3), Offset: rat.Of(0), Takes: takes}
}

func light() api.Const {
	return api.Const{Name: "light", Symbol: "c", Value: rat.Of(299792458), Spread: rat.Of(0), Unit: "m s^-1"}
}

func constant(name, symbol string) api.Const {
	return api.Const{Name: name, Symbol: symbol, Value: rat.Of(-2), Spread: rat.Of(1), Unit: "?"}
}

// with: a registry of some units.
func with(t *testing.T, l ...api.Unit) *reg.Registry {
	t.Helper()
	r := reg.New()
	for _, u := range l {
		checkWhy(t, "Add", r.Add(u), api.OK)
	}
	return r
}

func checkWhy(t *testing.T, what string, got, want api.Errno) {
	t.Helper()
	if got != want {
		t.Errorf("%s: %d, not %d", what, got, want)
	}
}

func checkFind(t *testing.T, r *reg.Registry, word string, want api.Unit, why api.Errno) {
	t.Helper()
	if u, e := r.Find(word); u != want || e != why {
		t.Errorf("Find(%.60q) = %v, %d, not %v, %d", word, u, e, want, why)
	}
}

func checkConst(t *testing.T, r *reg.Registry, word string, want api.Const, why api.Errno) {
	t.Helper()
	if c, e := r.Const(word); c != want || e != why {
		t.Errorf("Const(%.60q) = %v, %d, not %v, %d", word, c, e, want, why)
	}
}

func checkTexts(t *testing.T, what string, got []string, want ...string) {
	t.Helper()
	if !slices.Equal(got, want) {
		t.Errorf("%s: %q, not %q", what, got, want)
	}
}

// prefixes: made once, as the model asks for them often.
var prefixes = prefix.All()

// model: a registry as the chapter has it in words, without a map: of each thing all its words.
type model struct {
	units   []api.Unit
	aliases [][]string
	consts  []api.Const
	sealed  bool
}

func (m *model) wordsOf(n int) []string {
	return append([]string{m.units[n].Name, m.units[n].Symbol}, m.aliases[n]...)
}

// unitOf, constOf: whose word it is; -1: none's.
func (m *model) unitOf(word string) int {
	for n := range m.units {
		if slices.Contains(m.wordsOf(n), word) {
			return n
		}
	}
	return -1
}

func (m *model) constOf(word string) int {
	return slices.IndexFunc(m.consts, func(c api.Const) bool { return c.Name == word || c.Symbol == word })
}

func (m *model) has(words ...string) bool {
	return slices.ContainsFunc(words, func(w string) bool { return m.unitOf(w) >= 0 || m.constOf(w) >= 0 })
}

// refuses: why a thing of these two words is not taken.
func (m *model) refuses(name, symbol string) api.Errno {
	switch {
	case m.sealed:
		return api.ErrSealed
	case !names.Right(name) || !names.Right(symbol):
		return api.ErrForm
	case m.has(name, symbol):
		return api.ErrTwice
	}
	return api.OK
}

func (m *model) add(u api.Unit) api.Errno {
	why := m.refuses(u.Name, u.Symbol)
	if why == api.OK {
		m.units, m.aliases = append(m.units, u), append(m.aliases, nil)
	}
	return why
}

func (m *model) keep(c api.Const) api.Errno {
	why := m.refuses(c.Name, c.Symbol)
	if why == api.OK {
		m.consts = append(m.consts, c)
	}
	return why
}

func (m *model) alias(word, of string) api.Errno {
	n := m.unitOf(of)
	switch {
	case m.sealed:
		return api.ErrSealed
	case !names.Right(word):
		return api.ErrForm
	case m.has(word):
		return api.ErrTwice
	case n < 0:
		return api.ErrNone
	case len(m.aliases[n]) == 16:
		return api.ErrFull
	}
	m.aliases[n] = append(m.aliases[n], word)
	return api.OK
}

func (m *model) drop(word string) api.Errno {
	n, k := m.unitOf(word), m.constOf(word)
	switch {
	case m.sealed:
		return api.ErrSealed
	case n >= 0:
		m.units, m.aliases = slices.Delete(m.units, n, n+1), slices.Delete(m.aliases, n, n+1)
	case k >= 0:
		m.consts = slices.Delete(m.consts, k, k+1)
	default:
		return api.ErrNone
	}
	return api.OK
}

func (m *model) copied() *model {
	other := &model{units: slices.Clone(m.units), consts: slices.Clone(m.consts)}
	for _, l := range m.aliases {
		other.aliases = append(other.aliases, slices.Clone(l))
	}
	return other
}

// find: all readings with a prefix are gone through, word by word of each unit.
func (m *model) find(word string) (api.Unit, api.Errno) {
	folded, e, _ := names.Fold(word)
	if e != api.OK {
		return api.Unit{}, e
	}
	if n := m.unitOf(folded); n >= 0 {
		return m.units[n], api.OK
	}
	if m.constOf(folded) >= 0 {
		return api.Unit{}, api.ErrUnit
	}
	type reading struct{ prefix, name, symbol string }
	found := map[reading]int{}
	var read api.Unit
	for n, u := range m.units {
		calls := [][2]string{{u.Name, u.Symbol}}
		for _, w := range m.aliases[n] {
			calls = append(calls, [2]string{w, w})
		}
		for _, p := range prefixes {
			takes := u.Takes == api.AnyPrefix || u.Takes == api.SiPrefix && !p.Binary || u.Takes == api.BinPrefix && p.Binary
			for _, call := range calls {
				reads := folded == p.Name+call[0] || folded == p.Symbol+call[1] || p.Name == "micro" && folded == "u"+call[1]
				if takes && reads {
					found[reading{p.Name, call[0], call[1]}]++
					read = u
					read.Name, read.Symbol, read.Takes = p.Name+u.Name, p.Symbol+u.Symbol, api.NoPrefix
					read.Factor, _ = rat.Mul(p.Factor, u.Factor)
				}
			}
		}
	}
	switch len(found) {
	case 0:
		return api.Unit{}, api.ErrUnit
	case 1:
		return read, api.OK
	}
	return api.Unit{}, api.ErrMixed
}

func (m *model) words() []string {
	var l []string
	for n := range m.units {
		l = append(l, m.wordsOf(n)...)
	}
	for _, c := range m.consts {
		l = append(l, c.Name, c.Symbol)
	}
	l = names.Sort(l)
	return slices.Compact(l)
}

// check: the registry answers as the model does, for each of some words.
func (m *model) check(t *testing.T, r *reg.Registry, words []string) {
	t.Helper()
	if got := r.Units(); !slices.Equal(got, m.units) {
		t.Errorf("Units: %v, not %v", got, m.units)
	}
	if got := r.Consts(); !slices.Equal(got, m.consts) {
		t.Errorf("Consts: %v, not %v", got, m.consts)
	}
	checkTexts(t, "Words", r.Words(), m.words()...)
	for mass := range 3 {
		var alike []string
		for _, u := range m.units {
			if u.Dim == (api.Dim{0, mass}) {
				alike = append(alike, u.Symbol)
			}
		}
		checkTexts(t, "Alike", r.Alike(api.Dim{0, mass}), alike...)
	}
	for _, w := range words {
		u, e := m.find(w)
		checkFind(t, r, w, u, e)
		folded, why, _ := names.Fold(w)
		c, k := api.Const{}, m.constOf(folded)
		switch {
		case why != api.OK:
		case k < 0:
			why = api.ErrName
		default:
			c = m.consts[k]
		}
		checkConst(t, r, w, c, why)
	}
	if r.Sealed() != m.sealed {
		t.Error("Sealed is not", m.sealed)
	}
}

// numbered: as many names as one likes, none of which is read with a prefix of another.
func numbered(n int) string { return "w" + strconv.Itoa(n) }

func chanceUnit(r *rand.Rand, words []string) api.Unit {
	u := unit(words[r.Intn(len(words))], words[r.Intn(len(words))], r.Intn(4))
	u.Dim[1] = r.Intn(3)
	u.Factor = rat.Of(int64(1 + r.Intn(9)))
	return u
}

func long(n int) string { return strings.Repeat("x", n) }
