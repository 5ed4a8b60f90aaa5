package house

import (
	"slices"

	"cubit/api"
)

// wordRound: as what the words are read that each declaration names, and so on which ones it leans.
func (b *builder) wordRound() func(int) api.Errno {
	b.list()
	b.named, b.leans = make([][]reading, len(b.decls)), make([][]int, len(b.decls))
	reads := b.words.reader()
	return func(i int) api.Errno {
		if b.decls[i].Kind == api.DAlias {
			return b.standsFor(i)
		}
		for _, text := range naming(b.decls[i]) {
			l := reads(text)
			r, e := only(l)
			if e != api.OK {
				return e
			}
			b.named[i] = append(b.named[i], r)
			b.leans[i] = append(b.leans[i], b.units[r.unit])
			b.leans[i] = append(b.leans[i], b.byOther(l)...)
		}
		return api.OK
	}
}

// standsFor: another name stands for a unit by its Name or Symbol, as it stands there.
func (b *builder) standsFor(i int) api.Errno {
	of := b.words.known[b.decls[i].Of]
	if !of.own() {
		return api.ErrUnit
	}
	b.leans[i] = []int{b.units[of.number]}
	return api.OK
}

// naming: the words that a declaration names, of every other kind.
func naming(d api.Decl) []string {
	if d.Kind == api.DScale {
		return []string{d.Of}
	}
	var l []string
	for _, p := range d.Parts {
		l = append(l, p.Name)
	}
	return l
}

// byOther: the declaration of the other name by which a word is read, if no Name or Symbol gives that reading, too.
func (b *builder) byOther(l []found) []int {
	var at []int
	for _, f := range l {
		if b.words.known[f.by].own() {
			return nil
		}
		at = append(at, b.others[f.by])
	}
	return []int{slices.Min(at)}
}

// list: all words that are declared, wherever they stand.
func (b *builder) list() {
	b.words.known, b.others = make(map[string]word), make(map[string]int)
	constants := 0
	for i, d := range b.decls {
		switch {
		case isUnit(d.Kind):
			b.listUnit(i, d)
		case d.Kind == api.DConst:
			b.words.known[d.Name] = word{asConst, constants}
			b.words.known[d.Symbol] = word{asConst, constants}
			constants++
		case d.Kind == api.DPrefix:
			b.words.prefixes = append(b.words.prefixes, api.Prefix{Name: d.Name, Symbol: d.Symbol, Factor: d.Factor, Binary: d.Takes == api.BinPrefix})
		}
	}
	for i, d := range b.decls {
		if d.Kind == api.DAlias {
			b.listOther(i, d)
		}
	}
}

func (b *builder) listUnit(i int, d api.Decl) {
	n := len(b.units)
	b.units = append(b.units, i)
	b.words.takes = append(b.words.takes, d.Takes) // of a scale that is none
	b.words.known[d.Name] = word{asName, n}
	// Name and Symbol may be the same word.
	b.words.known[d.Symbol] = word{b.words.known[d.Symbol].as | asSymbol, n}
}

// listOther: all Names and Symbols stand in the list already.
func (b *builder) listOther(i int, d api.Decl) {
	b.others[d.Name] = i
	b.words.known[d.Name] = word{}
	if of := b.words.known[d.Of]; of.own() {
		b.words.known[d.Name] = word{asOther, of.number}
	}
}

func (b *builder) cycleRound() func(int) api.Errno {
	return func(i int) api.Errno {
		if b.leansOn(i, i) {
			return api.ErrCycle
		}
		return api.OK
	}
}

// leansOn: does a declaration lean on another one, straight or by others?
func (b *builder) leansOn(from, to int) bool {
	seen := make([]bool, len(b.decls))
	left := slices.Clone(b.leans[from])
next:
	if len(left) == 0 {
		return false
	}
	at := left[len(left)-1]
	left = left[:len(left)-1]
	if at == to {
		return true
	}
	if !seen[at] {
		seen[at] = true
		left = append(left, b.leans[at]...)
	}
	goto next
}
