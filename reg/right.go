package reg

import (
	"cubit/api"
	"cubit/dim"
	"cubit/names"
	"cubit/rat"
)

func rightUnit(u api.Unit) bool {
	return rightNames(u.Name, u.Symbol) && dim.Right(u.Dim) && above(u.Factor) && rat.Right(u.Offset) && rightTakes(u)
}

func rightNames(name, symbol string) bool { return names.Right(name) && names.Right(symbol) }

func above(r api.Rat) bool {
	sign, e := rat.Sign(r)
	return e == api.OK && sign > 0
}

// rightTakes: a scale takes no prefix, as a thousand steps of it are no multiple of where it stands.
func rightTakes(u api.Unit) bool {
	switch u.Takes {
	case api.NoPrefix:
		return true
	case api.SiPrefix, api.BinPrefix, api.AnyPrefix:
		return u.Offset == rat.Of(0)
	}
	return false
}

func rightConst(c api.Const) bool {
	sign, e := rat.Sign(c.Spread)
	spread := e == api.OK && sign >= 0
	return rightNames(c.Name, c.Symbol) && rat.Right(c.Value) && spread && c.Unit != "" && len(c.Unit) <= api.MaxText
}
