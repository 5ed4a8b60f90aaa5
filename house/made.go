package house

import (
	"cubit/api"
	"cubit/dim"
	"cubit/rat"
)

// made: what comes of a declaration. It has a fault of its own, or leans on one that has (then it is lost without one), or a unit, if it is one of a unit.
type made struct {
	done, lost bool
	fault      api.Errno
	unit       api.Unit
	factor     rat.Frac // the unit's, to reckon with
}

// makeRound: each declaration is made behind those on which it leans.
func (b *builder) makeRound() func(int) api.Errno {
	b.made = make([]made, len(b.decls))
	prefixes := make([]rat.Frac, len(b.words.prefixes))
	for n, p := range b.words.prefixes {
		prefixes[n], _ = rat.Read(p.Factor)
	}
	var follow func(i int)
	follow = func(i int) {
		m := &b.made[i]
		if m.done {
			return
		}
		m.done = true
		for _, on := range b.leans[i] {
			follow(on)
			if b.made[on].lost {
				m.lost = true
				return
			}
		}
		m.fault = b.makeOne(i, prefixes)
		m.lost = m.fault != api.OK
	}
	return func(i int) api.Errno {
		follow(i)
		return b.made[i].fault
	}
}

// makeOne: of a declaration; what is wrong with it.
func (b *builder) makeOne(i int, prefixes []rat.Frac) api.Errno {
	d, m := b.decls[i], &b.made[i]
	if d.Kind == api.DAlias || d.Kind == api.DPrefix {
		return api.OK
	}
	terms, e := b.terms(i, prefixes)
	if e != api.OK {
		return e
	}
	m.unit = api.Unit{Name: d.Name, Symbol: d.Symbol, Dim: dimension(terms), Offset: rat.Of(0), Takes: d.Takes}
	switch d.Kind {
	case api.DBase:
		m.unit.Dim = d.Dim
	case api.DScale:
		return m.scale(d, terms[0])
	}
	if !dim.Right(m.unit.Dim) {
		return api.ErrExp
	}
	if e := tooLarge(terms); e != api.OK || d.Kind == api.DConst {
		return e
	}
	own, _ := rat.Read(d.Factor)
	m.factor, e = rat.Product(powersOf(own, terms))
	if e != api.OK {
		return e
	}
	m.unit.Factor, e = m.factor.Tell()
	return e
}

// term: a unit that a declaration names, perhaps with a prefix, and its exponent.
type term struct {
	dim      api.Dim
	factor   rat.Frac
	prefix   rat.Frac
	prefixed bool
	exp      int
}

// terms: all that a declaration names, none of them a scale.
func (b *builder) terms(i int, prefixes []rat.Frac) ([]term, api.Errno) {
	var l []term
	for n, r := range b.named[i] {
		of := b.made[b.units[r.unit]]
		if of.unit.Offset != rat.Of(0) {
			return nil, api.ErrAffine
		}
		t := term{dim: of.unit.Dim, factor: of.factor, exp: 1}
		if r.prefix != plain {
			t.prefix, t.prefixed = prefixes[r.prefix], true
		}
		if parts := b.decls[i].Parts; len(parts) > 0 {
			t.exp = parts[n].Exp
		}
		l = append(l, t)
	}
	return l, api.OK
}

// whole: the factor with that of its prefix.
func (t term) whole() rat.Frac {
	if !t.prefixed {
		return t.factor
	}
	return t.factor.Mul(t.prefix)
}

// dimension: the product of all, right or not.
func dimension(l []term) api.Dim {
	sum := api.Dim{}
	for _, t := range l {
		for place, exp := range t.dim {
			sum[place] += exp * t.exp
		}
	}
	return sum
}

// tooLarge: is one of them too large with its prefix?
func tooLarge(l []term) api.Errno {
	for _, t := range l {
		if _, e := t.whole().Tell(); e != api.OK {
			return e
		}
	}
	return api.OK
}

func powersOf(own rat.Frac, l []term) []rat.Power {
	all := []rat.Power{{Of: own, Exp: 1}}
	for _, t := range l {
		all = append(all, rat.Power{Of: t.factor, Exp: t.exp})
		if t.prefixed {
			all = append(all, rat.Power{Of: t.prefix, Exp: t.exp})
		}
	}
	return all
}

// scale: the numbers of one, of another unit.
func (m *made) scale(d api.Decl, of term) api.Errno {
	factor, _ := rat.Read(d.Factor)
	offset, _ := rat.Read(d.Offset)
	whole := of.whole()
	m.factor = factor.Mul(whole)
	var wrong [4]api.Errno
	_, wrong[0] = whole.Tell()
	_, wrong[1] = offset.Quo(factor).Tell() // what leads back from the coherent unit
	m.unit.Factor, wrong[2] = m.factor.Tell()
	m.unit.Offset, wrong[3] = offset.Mul(whole).Tell()
	if wrong != [4]api.Errno{} {
		return api.ErrLarge
	}
	return api.OK
}
