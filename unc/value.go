package unc

import (
	"iter"
	"maps"
	"slices"

	"cubit/api"
	"cubit/rat"
)

// Value is an uncertain value as one reckons with it, here and in the layers above: what is reckoned on the way has no bound on its digits and its sources. It is made by Read or Sure. No call changes one.
type Value struct {
	at      rat.Frac
	sources []source // rising by their names; none has By 0
}

type source struct {
	name string
	by   rat.Frac
}

func whole(n int) rat.Frac {
	f, _ := rat.Read(rat.Of(int64(n)))
	return f
}

// isName: is it a source's name?
func isName(s string) bool {
	for i := range len(s) {
		if s[i] < 33 || s[i] > 126 {
			return false
		}
	}
	return s != "" && len(s) <= api.MaxName
}

// Read: of an uncertain value, if that is right.
func Read(m api.Meas) (Value, bool) {
	at, right := rat.Read(m.Value)
	if !right || len(m.Sources) > api.MaxSources {
		return Value{}, false
	}
	x := Value{at: at}
	last := ""
	for _, s := range m.Sources {
		by, right := rat.Read(s.By)
		// The empty text, which is no name, is below each of them.
		if !right || by.Sign() == 0 || !isName(s.Name) || s.Name <= last {
			return Value{}, false
		}
		x.sources = append(x.sources, source{s.Name, by})
		last = s.Name
	}
	return x, true
}

func readTwo(a, b api.Meas) (x, y Value, e api.Errno) {
	x, right := Read(a)
	y, rightToo := Read(b)
	if !right || !rightToo {
		return Value{}, Value{}, api.ErrForm
	}
	return x, y, api.OK
}

// Sure: a number without sources.
func Sure(at rat.Frac) Value { return Value{at: at} }

// Tell: as an uncertain value, if that is right: ErrLarge, ErrSource.
func (x Value) Tell() (api.Meas, api.Errno) {
	number, e := x.at.Tell()
	if e != api.OK {
		return api.Meas{}, e
	}
	m := api.Meas{Value: number}
	for _, s := range x.sources {
		number, e := s.by.Tell()
		if e != api.OK {
			return api.Meas{}, e
		}
		m.Sources = append(m.Sources, api.Source{Name: s.name, By: number})
	}
	if len(m.Sources) > api.MaxSources {
		return api.Meas{}, api.ErrSource
	}
	return m, api.OK
}

// At: its number.
func (x Value) At() rat.Frac { return x.at }

// IsSure: has it no sources?
func (x Value) IsSure() bool { return len(x.sources) == 0 }

// Add: the sum.
func (x Value) Add(y Value) Value { return joined(x.at.Add(y.at), together(x, y), rat.Frac.Add) }

// Sub: the difference.
func (x Value) Sub(y Value) Value { return joined(x.at.Sub(y.at), together(x, y), rat.Frac.Sub) }

// Mul: the product.
func (x Value) Mul(y Value) Value {
	return joined(x.at.Mul(y.at), together(x, y), func(byX, byY rat.Frac) rat.Frac {
		return x.at.Mul(byY).Add(y.at.Mul(byX))
	})
}

// Quo: the quotient. The number of y must not be 0.
func (x Value) Quo(y Value) Value {
	quotient := x.at.Quo(y.at)
	return joined(quotient, together(x, y), func(byX, byY rat.Frac) rat.Frac {
		return byX.Sub(byY.Mul(quotient)).Quo(y.at)
	})
}

// Neg: what is opposite.
func (x Value) Neg() Value { return x.Mapped(x.at.Neg(), whole(-1)) }

// Pow: to the power n, at most MaxPow both ways: ErrZero, if its number is 0 and n below 0; ErrLarge, if its number is not right.
func (x Value) Pow(n int) (Value, api.Errno) {
	at, e := x.at.Pow(n)
	if e != api.OK {
		return Value{}, e
	}
	return x.Mapped(at, slope(x.at, at, n)), api.OK
}

// slope: n times the power n - 1 of a number, whose power n is at: so no other power is worked out.
func slope(x, at rat.Frac, n int) rat.Frac {
	switch {
	case n == 1:
		return whole(1)
	case x.Sign() == 0:
		return whole(0)
	}
	return whole(n).Mul(at).Quo(x)
}

// Mapped: what a function makes of it whose number there is at, and whose slope there is slope.
func (x Value) Mapped(at, slope rat.Frac) Value {
	return joined(at, together(x, Value{}), func(by, _ rat.Frac) rat.Frac { return by.Mul(slope) })
}

// pair: what one source does to each of two values.
type pair struct {
	a, b rat.Frac
}

// together: the sources of both, by their names.
func together(x, y Value) map[string]pair {
	none := whole(0)
	pairs := map[string]pair{}
	for _, s := range x.sources {
		pairs[s.name] = pair{s.by, none}
	}
	for _, s := range y.sources {
		p, shared := pairs[s.name]
		if !shared {
			p.a = none
		}
		p.b = s.by
		pairs[s.name] = p
	}
	return pairs
}

// rising gives the sources one by one, by their names.
func rising(pairs map[string]pair) iter.Seq2[string, pair] {
	return func(yield func(string, pair) bool) {
		for _, name := range slices.Sorted(maps.Keys(pairs)) {
			if !yield(name, pairs[name]) {
				return
			}
		}
	}
}

// total: of what join makes of each pair.
func total(pairs map[string]pair, join func(byA, byB rat.Frac) rat.Frac) rat.Frac {
	sum := whole(0)
	for _, p := range rising(pairs) {
		sum = sum.Add(join(p.a, p.b))
	}
	return sum
}

// joined: the value at a number, with the By that join makes of each pair.
func joined(at rat.Frac, pairs map[string]pair, join func(byA, byB rat.Frac) rat.Frac) Value {
	x := Value{at: at}
	for name, p := range rising(pairs) {
		if by := join(p.a, p.b); by.Sign() != 0 {
			x.sources = append(x.sources, source{name, by})
		}
	}
	return x
}
