package graph

import (
	"cubit/api"
	"cubit/rat"
)

// longest: so many bytes a name has at most.
const longest = 80

// line: a map without the names between which it leads: mul times x, and add. Its numbers have no bound, as only results have one.
type line struct{ mul, add rat.Frac }

// same: the line of no hops.
func same() line {
	one, _ := rat.Read(rat.Of(1))
	none, _ := rat.Read(rat.Of(0))
	return line{one, none}
}

// read: the line of an edge, if that is right.
func read(a api.Edge) (line, bool) {
	if !named(a.From) || !named(a.To) {
		return line{}, false
	}
	mul, right := rat.Read(a.Mul)
	add, rightToo := rat.Read(a.Add)
	if !right || !rightToo || mul.Sign() == 0 {
		return line{}, false
	}
	return line{mul, add}, true
}

func named(s string) bool { return len(s) >= 1 && len(s) <= longest }

// at: what it makes of x.
func (a line) at(x rat.Frac) rat.Frac { return a.mul.Mul(x).Add(a.add) }

// then: it, and then b.
func (a line) then(b line) line { return line{a.mul.Mul(b.mul), b.at(a.add)} }

// back: what leads back.
func (a line) back() line {
	inverse := a.mul.Inv()
	return line{inverse, a.add.Mul(inverse).Neg()}
}

func (a line) is(b line) bool { return a.mul.Cmp(b.mul) == 0 && a.add.Cmp(b.add) == 0 }

// tell: the edge between two names: ErrLarge, if its numbers are not right.
func (a line) tell(from, to string) (api.Edge, api.Errno) {
	mul, e := a.mul.Tell()
	if e != api.OK {
		return api.Edge{}, e
	}
	add, e := a.add.Tell()
	if e != api.OK {
		return api.Edge{}, e
	}
	return api.Edge{From: from, To: to, Mul: mul, Add: add}, api.OK
}

// Then: one conversion and then another one.
func Then(a, b api.Edge) (api.Edge, api.Errno) {
	first, right := read(a)
	second, rightToo := read(b)
	switch {
	case !right || !rightToo:
		return api.Edge{}, api.ErrForm
	case a.To != b.From:
		return api.Edge{}, api.ErrLoose
	}
	return first.then(second).tell(a.From, b.To)
}

// Turn: the way back.
func Turn(a api.Edge) (api.Edge, api.Errno) {
	l, right := read(a)
	if !right {
		return api.Edge{}, api.ErrForm
	}
	return l.back().tell(a.To, a.From)
}

// Use: of a number.
func Use(a api.Edge, x api.Rat) (api.Rat, api.Errno) {
	l, right := read(a)
	number, rightToo := rat.Read(x)
	if !right || !rightToo {
		return api.Rat{}, api.ErrForm
	}
	return l.at(number).Tell()
}
