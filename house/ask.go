package house

import (
	"slices"
	"strconv"

	"cubit/api"
	"cubit/dim"
	"cubit/graph"
	"cubit/names"
	"cubit/rat"
	"cubit/reg"
)

// Units: as they were declared.
func (h *House) Units() []api.Unit {
	if h == nil {
		return nil
	}
	return slices.Clone(h.units)
}

// Consts: as they were declared.
func (h *House) Consts() []api.Const {
	if h == nil {
		return nil
	}
	return slices.Clone(h.consts)
}

// Prefixes: as they were declared.
func (h *House) Prefixes() []api.Prefix {
	if h == nil {
		return nil
	}
	return slices.Clone(h.words.prefixes)
}

// folded: a word in its one form.
func (h *House) folded(word string) (string, api.Errno) {
	if h == nil {
		return "", api.ErrNil
	}
	text, e, _ := names.Fold(word)
	return text, e
}

// Unit: the unit as which a word is read, perhaps with a prefix.
func (h *House) Unit(word string) (api.Unit, api.Errno) {
	text, e := h.folded(word)
	if e != api.OK {
		return api.Unit{}, e
	}
	reads := h.words.reader()
	r, e := only(reads(text))
	switch {
	case e != api.OK:
		return api.Unit{}, e
	case r.prefix == plain:
		return h.units[r.unit], api.OK
	}
	return with(h.words.prefixes[r.prefix], h.units[r.unit])
}

// with: a unit behind a prefix.
func with(p api.Prefix, u api.Unit) (api.Unit, api.Errno) {
	factor, e := rat.Mul(p.Factor, u.Factor)
	if e != api.OK {
		return api.Unit{}, e
	}
	u.Name, u.Symbol = p.Name+u.Name, p.Symbol+u.Symbol
	u.Factor, u.Takes = factor, api.NoPrefix
	return u, api.OK
}

// Const: by its name or symbol.
func (h *House) Const(word string) (api.Const, api.Errno) {
	text, e := h.folded(word)
	if e != api.OK {
		return api.Const{}, e
	}
	known := h.words.known[text]
	if known.as != asConst {
		return api.Const{}, api.ErrName
	}
	return h.consts[known.number], api.OK
}

// Edges: each unit's way to the coherent unit of its dimension.
func (h *House) Edges() []api.Edge {
	var l []api.Edge
	for _, u := range h.Units() {
		coherent, _ := dim.Print(u.Dim)
		l = append(l, api.Edge{From: u.Symbol, To: "= " + coherent, Mul: u.Factor, Add: u.Offset})
	}
	return l
}

// Convert: a number of one unit as one of another.
func (h *House) Convert(x api.Rat, from, to string) (api.Rat, api.Errno) {
	if h == nil {
		return api.Rat{}, api.ErrNil
	}
	number, right := rat.Read(x)
	if !right {
		return api.Rat{}, api.ErrForm
	}
	a, e := h.Unit(from)
	if e != api.OK {
		return api.Rat{}, e
	}
	b, e := h.Unit(to)
	if e != api.OK {
		return api.Rat{}, e
	}
	if a.Dim != b.Dim {
		return api.Rat{}, api.ErrDim
	}
	mul, add := line(a)
	less, by := line(b)
	return number.Mul(mul).Add(add).Sub(by).Quo(less).Tell()
}

// line: a unit's numbers, to reckon with: what is reckoned on the way has no bound.
func line(u api.Unit) (factor, offset rat.Frac) {
	factor, _ = rat.Read(u.Factor)
	offset, _ = rat.Read(u.Offset)
	return factor, offset
}

// Health: what is wrong with it, a line each. Nothing ever is, of a house that stands.
func (h *House) Health() []string {
	if h == nil {
		return nil
	}
	var ills []string
	note := func(what string, e api.Errno) {
		if e != api.OK {
			ills = append(ills, what+": error "+strconv.Itoa(int(e)))
		}
	}
	all := reg.New()
	for _, u := range h.units {
		note("unit "+u.Name, all.Add(u))
	}
	for _, c := range h.consts {
		if c.Unit == "" {
			c.Unit = "1" // a registry takes no constant without a unit's text
		}
		note("constant "+c.Name, all.Keep(c))
	}
	_, e, at, _ := graph.New(h.Edges())
	note("conversion "+strconv.Itoa(at), e)
	return ills
}
