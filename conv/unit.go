package conv

import (
	"cubit/api"
	"cubit/dim"
	"cubit/house"
	"cubit/rat"
)

// texted: a unit, with the text that tells it.
type texted struct {
	api.Unit
	text string
}

// read: a unit by its text.
func read(h *house.House, text string) (texted, api.Errno) {
	u, why, _ := Unit(h, text)
	if why != api.OK {
		return texted{}, why
	}
	return texted{u, text}, api.OK
}

// alike: two units of one dimension, by their texts.
func alike(h *house.House, from, to string) (a, b texted, why api.Errno) {
	if a, why = read(h, from); why != api.OK {
		return texted{}, texted{}, why
	}
	if b, why = read(h, to); why != api.OK {
		return texted{}, texted{}, why
	}
	if a.Dim != b.Dim {
		return texted{}, texted{}, api.ErrDim
	}
	return a, b, api.OK
}

// coherent: the unit of a dimension to which all others of it lead.
func coherent(d api.Dim) texted {
	text, _ := dim.Print(d)
	return texted{api.Unit{Dim: d, Factor: rat.Of(1), Offset: rat.Of(0)}, "= " + text}
}

// there: the hop from a unit to the coherent one.
func (u texted) there() api.Hop {
	return api.Hop{From: u.text, To: coherent(u.Dim).text, Mul: u.Factor, Add: u.Offset}
}

// back: the hop from the coherent unit to this one; ErrLarge, if one of its numbers is not right.
func (u texted) back() (api.Hop, api.Errno) {
	middle := coherent(u.Dim)
	add, why := converted(exactly(rat.Of(0)), middle, u, exactly).Tell()
	if why != api.OK {
		return api.Hop{}, why
	}
	mul, why := rat.Inv(u.Factor)
	if why != api.OK {
		return api.Hop{}, why
	}
	return api.Hop{From: middle.text, To: u.text, Mul: mul, Add: add}, api.OK
}
