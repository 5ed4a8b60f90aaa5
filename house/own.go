package house

import (
	"slices"
	"strconv"
	"strings"

	"cubit/api"
	"cubit/base"
	"cubit/nature"
	"cubit/prefix"
	"cubit/si"
	"cubit/start"
	"cubit/temps"
	"cubit/trad"
)

// The packages that give units to the own house, in the order of these.
const (
	ofBase = iota
	ofSi
	ofTemps
	ofTrad
)

// stock: what the packages below tell: that of which the own house is made.
type stock struct {
	prefixes []api.Prefix
	units    [4][]api.Unit
	consts   []api.Const
}

func taken() stock {
	units := [4][]api.Unit{ofBase: base.Units(), ofSi: si.Units(), ofTemps: temps.Units(), ofTrad: trad.Units()}
	return stock{prefix.All(), units, nature.All()}
}

// Own: the program's own house. It is made of what stands as any other one of declarations; and it stands just if that is what the packages tell, in the order of the start.
func Own() (*House, api.Errno) {
	s := taken()
	h, e, _ := Build(s.decls())
	if e != api.OK || !h.holds(s) || !s.inOrder() || len(h.Health()) > 0 {
		return nil, api.ErrHouse
	}
	return h, api.OK
}

// Decls: the declarations of which the own house is made.
func Decls() []api.Decl { return taken().decls() }

func (s stock) decls() []api.Decl {
	var l []api.Decl
	for _, p := range s.prefixes {
		l = append(l, prefixDecl(p))
	}
	for part, units := range s.units {
		for _, u := range units {
			l = append(l, unitDecl(part, u))
		}
	}
	for _, c := range s.consts {
		l = append(l, api.Decl{Kind: api.DConst, Name: c.Name, Symbol: c.Symbol, Factor: c.Value, Spread: c.Spread, Parts: partsOf(c.Unit)})
	}
	for _, a := range aliasesMade() {
		l = append(l, api.Decl{Kind: api.DAlias, Name: a.word.text(), Of: a.of.text()})
	}
	return l
}

func prefixDecl(p api.Prefix) api.Decl {
	takes := api.SiPrefix
	if p.Binary {
		takes = api.BinPrefix
	}
	return api.Decl{Kind: api.DPrefix, Name: p.Name, Symbol: p.Symbol, Factor: p.Factor, Takes: takes}
}

func unitDecl(part int, u api.Unit) api.Decl {
	d := api.Decl{Name: u.Name, Symbol: u.Symbol, Factor: u.Factor}
	switch part {
	case ofBase:
		d.Kind, d.Dim, d.Takes = api.DBase, u.Dim, u.Takes
	case ofTemps:
		d.Kind, d.Of, d.Offset = api.DScale, "K", u.Offset
	default:
		d.Kind, d.Parts, d.Takes = api.DUnit, coherent(u.Dim), u.Takes
	}
	return d
}

// coherent: the powers of coherent units whose product has a dimension.
func coherent(d api.Dim) []api.Part {
	var l []api.Part
	for place, word := range [8]string{"m", "kg", "s", "A", "K", "mol", "cd", "b"} {
		if d[place] != 0 {
			l = append(l, api.Part{Name: word, Exp: d[place]})
		}
	}
	return l
}

// partsOf: what a constant's unit tells.
func partsOf(text string) []api.Part {
	var l []api.Part
	for _, term := range strings.Fields(text) {
		word, exp, raised := strings.Cut(term, "^")
		p := api.Part{Name: word, Exp: 1}
		if raised {
			p.Exp, _ = strconv.Atoi(exp)
		}
		l = append(l, p)
	}
	return l
}

// holds: has it all that the packages tell, as they tell it, and as much as it should have?
func (h *House) holds(s stock) bool {
	all := board{len(h.words.prefixes), len(h.units), len(h.consts), h.words.others()}
	given := parts{prefixes: len(s.prefixes), consts: len(s.consts)}
	for part, units := range s.units {
		given.units[part] = len(units)
	}
	units := slices.Concat(s.units[:]...)
	same := slices.Equal(h.words.prefixes, s.prefixes) && slices.Equal(h.units, units) && slices.Equal(h.consts, s.consts)
	return same && all == boardMade() && given == partsMade()
}

// inOrder: does each package tell what it has made as the start makes it, by the plan?
func (s stock) inOrder() bool {
	steps, e, _ := start.Order(Plan())
	if e != api.OK {
		return false
	}
	told := func(n int, l []string) bool { return slices.Equal(standing(steps, path(n)), l) }
	unit := func(u api.Unit) string { return u.Name }
	return told(inPrefix, namesOf(s.prefixes, func(p api.Prefix) string { return p.Name })) &&
		told(inBase, namesOf(s.units[ofBase], unit)) &&
		told(inSi, namesOf(s.units[ofSi], unit)) &&
		told(inTemps, namesOf(s.units[ofTemps], unit)) &&
		told(inTrad, namesOf(s.units[ofTrad], unit)) &&
		told(inNature, namesOf(s.consts, func(c api.Const) string { return c.Name }))
}

func namesOf[T any](l []T, name func(T) string) []string {
	var all []string
	for _, x := range l {
		all = append(all, name(x))
	}
	return all
}

// standing: what the steps of a package make.
func standing(steps []api.Step, path string) []string {
	var l []string
	for _, s := range steps {
		if s.Path == path {
			l = append(l, makes(s)...)
		}
	}
	return l
}

// makes: a variable makes what is called as it is; but those of si make groups of units, and the points of temps are no unit.
func makes(s api.Step) []string {
	points := api.Step{Path: path(inTemps), What: "points"}
	switch {
	case s == points:
		return nil
	case s.Path == path(inSi):
		return group(s.What)
	}
	return []string{s.What}
}

func group(variable string) []string {
	for line := range strings.Lines(groups) {
		if words := strings.Fields(line); words[0] == variable {
			return words[1:]
		}
	}
	return nil
}

// groups: the variables of si that make units, and these.
const groups = `force newton pascal
energy joule
power watt
electric coulomb volt farad ohm siemens weber tesla henry
times hertz
rays becquerel gray sievert katal
plane radian steradian
light lumen lux
along minute hour day litre tonne bar hectare byte
`
