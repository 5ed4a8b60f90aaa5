package house

import (
	"slices"
	"strconv"
	"strings"

	"cubit/api"
)

// builder: a list of declarations, and what is known of them from round to round.
type builder struct {
	decls  []api.Decl
	words  wordbook
	units  []int          // of each unit the number of its declaration
	others map[string]int // of each other name likewise
	named  [][]reading    // of each declaration as what the words are read that it names
	leans  [][]int        // and the numbers of those on which it leans straight
	made   []made
}

// Build: a house of declarations; the number of the one that can not be.
func Build(l []api.Decl) (*House, api.Errno, int) {
	b := &builder{decls: l}
	// Each round knows that nobody is at fault in those ahead of it.
	for _, round := range []func() func(int) api.Errno{b.formRound, b.twiceRound, b.fullRound, b.wordRound, b.cycleRound, b.makeRound} {
		fault := round()
		for i := range l {
			if e := fault(i); e != api.OK {
				return nil, e, i
			}
		}
	}
	return b.house(), api.OK, 0
}

func (b *builder) formRound() func(int) api.Errno {
	return func(i int) api.Errno {
		if !right(b.decls[i]) {
			return api.ErrForm
		}
		return api.OK
	}
}

// twiceRound: prefixes have words of their own, all other kinds share theirs.
func (b *builder) twiceRound() func(int) api.Errno {
	prefixes, others, dims := make(map[string]int), make(map[string]int), make(map[api.Dim]int)
	return func(i int) api.Errno {
		d, ahead := b.decls[i], others
		if d.Kind == api.DPrefix {
			ahead = prefixes
		}
		called := calls(d)
		if slices.ContainsFunc(called, func(word string) bool { return ahead[word] > 0 }) {
			return api.ErrTwice
		}
		for _, word := range called {
			ahead[word]++
		}
		if d.Kind != api.DBase {
			return api.OK
		}
		if dims[d.Dim]++; dims[d.Dim] > 1 {
			return api.ErrTwice
		}
		return api.OK
	}
}

// calls: the words that a declaration brings.
func calls(d api.Decl) []string {
	if d.Kind == api.DAlias {
		return []string{d.Name}
	}
	return []string{d.Name, d.Symbol}
}

func isUnit(kind int) bool { return kind == api.DBase || kind == api.DUnit || kind == api.DScale }

// So many other names and prefixes a house has at most.
const (
	maxOthers   = 1024
	maxPrefixes = 64
)

// fullRound: all units share their room, each other kind has its own.
func (b *builder) fullRound() func(int) api.Errno {
	room := map[int]int{api.DUnit: api.MaxUnits, api.DConst: api.MaxUnits, api.DAlias: maxOthers, api.DPrefix: maxPrefixes}
	return func(i int) api.Errno {
		kind := b.decls[i].Kind
		if isUnit(kind) {
			kind = api.DUnit
		}
		if room[kind]--; room[kind] < 0 {
			return api.ErrFull
		}
		return api.OK
	}
}

// house: of what has been made, in the order of the list.
func (b *builder) house() *House {
	h := &House{words: b.words}
	for i, d := range b.decls {
		switch {
		case isUnit(d.Kind):
			h.units = append(h.units, b.made[i].unit)
		case d.Kind == api.DConst:
			h.consts = append(h.consts, api.Const{Name: d.Name, Symbol: d.Symbol, Value: d.Factor, Spread: d.Spread, Unit: powers(d.Parts)})
		}
	}
	return h
}

// powers: parts as text.
func powers(l []api.Part) string {
	var terms []string
	for _, p := range l {
		term := p.Name
		if p.Exp != 1 {
			term += "^" + strconv.Itoa(p.Exp)
		}
		terms = append(terms, term)
	}
	return strings.Join(terms, " ")
}
