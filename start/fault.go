package start

import (
	"strings"

	"cubit/api"
)

// fault: what is wrong, and the text that is to blame, if there is one.
type fault struct {
	why  api.Errno
	what string
}

func right() fault { return fault{} }

func (f fault) blame() []string {
	if f.why == api.ErrSize {
		return nil
	}
	return []string{f.what}
}

// firstFault: of the first check that finds one.
func firstFault(l []api.Package, checks ...func([]api.Package) fault) fault {
	for _, check := range checks {
		if f := check(l); f != right() {
			return f
		}
	}
	return right()
}

// size: is there more than a start may have?
func size(l []api.Package) fault {
	left, full := api.MaxVars, false
	take := func(n int) {
		// What is left is counted, and not what there is: that sum could leave its type.
		full = full || n < 0 || n > left
		if !full {
			left -= n
		}
	}
	take(len(l))
	for _, p := range l {
		take(len(p.Imports))
		take(len(p.Files))
		for _, f := range p.Files {
			take(len(f.Vars))
			take(len(f.Funcs))
			take(f.Inits)
			for _, v := range f.Vars {
				take(len(v.Uses))
			}
			for _, v := range f.Funcs {
				take(len(v.Uses))
			}
		}
	}
	if full {
		return fault{why: api.ErrSize}
	}
	return right()
}

// The kinds of places.
const (
	aPath = iota
	anImport
	aFile
	aName // of a variable or a function
	aUse
)

// place: where a text stands: of which kind it is, and in which package it counts (a package's own path counts in all of them).
type place struct {
	kind     int
	in, text string
}

// places: all of a program's texts, in the order in which their faults count.
func places(l []api.Package) []place {
	var all []place
	for _, p := range l {
		put := func(kind int, texts ...string) {
			for _, text := range texts {
				all = append(all, place{kind, p.Path, text})
			}
		}
		all = append(all, place{kind: aPath, text: p.Path})
		put(anImport, p.Imports...)
		for _, f := range p.Files {
			put(aFile, f.Name)
			for _, v := range f.Vars {
				put(aName, v.Name)
				put(aUse, v.Uses...)
			}
			for _, v := range f.Funcs {
				put(aName, v.Name)
				put(aUse, v.Uses...)
			}
		}
	}
	return all
}

// form: is each text one that can be? (What is used is looked for among the names.)
func form(l []api.Package) fault {
	for _, p := range places(l) {
		if !p.canBe() {
			return fault{api.ErrForm, p.text}
		}
	}
	return right()
}

func (p place) canBe() bool {
	if p.kind == aUse {
		return true
	}
	if len(p.text) < 1 || len(p.text) > api.MaxName {
		return false
	}
	switch p.kind {
	case aPath, anImport:
		return madeOf(p.text, inPath)
	case aName:
		return madeOf(p.text, inName) && !isDigit(p.text[0]) && p.text != "init"
	}
	return true
}

func madeOf(s string, of func(byte) bool) bool {
	for i := range len(s) {
		if !of(s[i]) {
			return false
		}
	}
	return true
}

func isDigit(c byte) bool { return '0' <= c && c <= '9' }
func isSmall(c byte) bool { return 'a' <= c && c <= 'z' }
func isGreat(c byte) bool { return 'A' <= c && c <= 'Z' }

func inPath(c byte) bool { return isSmall(c) || isDigit(c) || c == '_' || c == '-' || c == '/' }
func inName(c byte) bool { return isSmall(c) || isGreat(c) || isDigit(c) || c == '_' }

// twice: does a text stand where it stands already?
func twice(l []api.Package) fault {
	seen := make(map[place]int)
	for _, p := range places(l) {
		if seen[p]++; p.kind != aUse && seen[p] > 1 {
			return fault{api.ErrTwice, p.text}
		}
	}
	return right()
}

// missing: is something imported or used that is not there?
func missing(l []api.Package) fault { return missingOf(l, true) }

// missingWithin: likewise of a package alone, with nothing known of what it imports.
func missingWithin(l []api.Package) fault { return missingOf(l, false) }

func missingOf(l []api.Package, whole bool) fault {
	there := thereIn(l)
	for _, p := range places(l) {
		path, name, pointed := cut(p.text)
		switch {
		case p.kind == anImport && whole && !there(aPath, "", p.text),
			p.kind == aUse && pointed && !there(anImport, p.in, path),
			p.kind == aUse && pointed && whole && !there(aName, path, name):
			return fault{api.ErrImport, p.text}
		case p.kind == aUse && !pointed && !there(aName, p.in, name):
			return fault{api.ErrNone, p.text}
		}
	}
	return right()
}

// thereIn: asks whether a text stands at some place of a program.
func thereIn(l []api.Package) func(kind int, in, text string) bool {
	known := make(map[place]int)
	for _, p := range places(l) {
		known[p]++
	}
	return func(kind int, in, text string) bool { return known[place{kind, in, text}] > 0 }
}

// cut: a name used, at its last point.
func cut(s string) (path, name string, pointed bool) {
	at := strings.LastIndexByte(s, '.')
	if at < 0 {
		return "", s, false
	}
	return s[:at], s[at+1:], true
}
