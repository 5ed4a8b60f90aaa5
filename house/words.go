package house

import (
	"strings"

	"cubit/api"
)

// What a word is of a thing: of a unit a name, a symbol, or another name; several of them too, as bits.
const (
	asName = 1 << iota
	asSymbol
	asOther
	asConst
)

// word: what stands for something: a unit, or a constant, by its number. Another name of nothing is a word, too: it is read as nothing.
type word struct{ as, number int }

// own: is it a unit's Name or Symbol?
func (w word) own() bool { return w.as&(asName|asSymbol) != 0 }

// wordbook: of which prefixes and words the words of a house are made.
type wordbook struct {
	prefixes []api.Prefix
	takes    []int // of each unit, which prefixes
	known    map[string]word
}

// plain: no prefix.
const plain = -1

// reading: a prefix and a unit, by their numbers.
type reading struct{ prefix, unit int }

// found: a reading, and by which of the unit's words.
type found struct {
	reading
	by string
}

// beginning: what may stand ahead of which words of a unit, for a prefix.
type beginning struct {
	text  string
	ahead int
}

// micro: a prefix with this symbol is written as u, too.
const micro = "\u03bc"

func beginnings(p api.Prefix) []beginning {
	l := []beginning{{p.Name, asName | asOther}, {p.Symbol, asSymbol | asOther}}
	if p.Symbol == micro {
		l = append(l, beginning{"u", asSymbol | asOther})
	}
	return l
}

// reader: asks of a word, folded, as what it is read: all ways in which it can be.
func (w wordbook) reader() func(text string) []found {
	return func(text string) []found {
		if known, ok := w.known[text]; ok {
			return w.whole(text, known)
		}
		var l []found
		for n, p := range w.prefixes {
			for _, b := range beginnings(p) {
				rest, ok := strings.CutPrefix(text, b.text)
				known := w.known[rest]
				if ok && known.as&b.ahead != 0 && takes(w.takes[known.number], p.Binary) {
					l = append(l, found{reading{n, known.number}, rest})
				}
			}
		}
		return l
	}
}

// whole: a word that stands for something itself is not cut.
func (w wordbook) whole(text string, known word) []found {
	if !known.own() && known.as != asOther {
		return nil
	}
	return []found{{reading{plain, known.number}, text}}
}

// takes: does a unit that takes such prefixes take one that is binary, or not?
func takes(which int, binary bool) bool {
	if binary {
		return which == api.BinPrefix || which == api.AnyPrefix
	}
	return which == api.SiPrefix || which == api.AnyPrefix
}

// only: the one reading of a word.
func only(l []found) (reading, api.Errno) {
	if len(l) == 0 {
		return reading{}, api.ErrUnit
	}
	for _, f := range l[1:] {
		if f.reading != l[0].reading {
			return reading{}, api.ErrMixed
		}
	}
	return l[0].reading, api.OK
}

// others: how many other names there are.
func (w wordbook) others() int {
	n := 0
	for _, known := range w.known {
		if known.as == asOther {
			n++
		}
	}
	return n
}
