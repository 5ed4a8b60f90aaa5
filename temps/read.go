package temps

import (
	"slices"

	"cubit/api"
	"cubit/rat"
)

// unit: a unit of temperature, in kelvins, with its numbers as one reckons with them: what is reckoned on the way has no bound.
type unit struct{ factor, offset rat.Frac }

// kelvin: of base, but known to the calls of this package. It is what all others are told in.
func kelvin() scale { return scale{factor: ratio{1, 1}, offset: ratio{0, 1}} }

// known: a unit of this package, or the kelvin.
func known(s string) (unit, bool) {
	r, ok := find(s, append(rows(), row{"kelvin", "K", kelvin}))
	if !ok {
		return unit{}, false
	}
	made := r.made()
	return unit{made.factor.frac(), made.offset.frac()}, true
}

// kelvins: where x of it lies. mark: where on it so many kelvins lie.
func (u unit) kelvins(x rat.Frac) rat.Frac { return u.steps(x).Add(u.offset) }
func (u unit) mark(k rat.Frac) rat.Frac    { return u.count(k.Sub(u.offset)) }

// steps: how many kelvins x steps of it are. count: how many steps of it so many kelvins are.
func (u unit) steps(x rat.Frac) rat.Frac { return x.Mul(u.factor) }
func (u unit) count(k rat.Frac) rat.Frac { return k.Quo(u.factor) }

// read: a number and two units, if they are such.
func read(x api.Rat, from, to string) (rat.Frac, unit, unit, api.Errno) {
	number, right := rat.Read(x)
	if !right {
		return rat.Frac{}, unit{}, unit{}, api.ErrForm
	}
	a, ok := known(from)
	b, okToo := known(to)
	if !ok || !okToo {
		return rat.Frac{}, unit{}, unit{}, api.ErrUnit
	}
	return number, a, b, api.OK
}

// To: a temperature on another scale.
func To(x api.Rat, from, to string) (api.Rat, api.Errno) {
	number, a, b, e := read(x, from, to)
	if e != api.OK {
		return api.Rat{}, e
	}
	reading, marking := a.kelvins, b.mark
	k := reading(number)
	if k.Sign() < 0 {
		return api.Rat{}, api.ErrBelow
	}
	return marking(k).Tell()
}

// Step: a difference, in steps of another unit.
func Step(x api.Rat, from, to string) (api.Rat, api.Errno) {
	number, a, b, e := read(x, from, to)
	if e != api.OK {
		return api.Rat{}, e
	}
	reading, counting := a.steps, b.count
	return counting(reading(number)).Tell()
}

// pointNames: in the order of the points.
func pointNames() []string {
	return []string{absolute: "absolute", ice: "ice", triple: "triple", boiling: "boiling"}
}

// Fixed: where a point lies on a scale.
func Fixed(point, scale string) (api.Rat, api.Errno) {
	n := slices.Index(pointNames(), point)
	if n < 0 {
		return api.Rat{}, api.ErrName
	}
	u, ok := known(scale)
	if !ok {
		return api.Rat{}, api.ErrUnit
	}
	marking := u.mark
	return marking(pointsMade()[n].frac()).Tell()
}
