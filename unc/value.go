package unc

import (
	"iter"
	"maps"
	"slices"

	"cubit/api"
	"cubit/rat"
)

// value is an uncertain value as one reckons with it: on the way its numbers have no bound on their digits. Its sources rise by their names.
type value struct {
	at      rat.Frac
	sources []source
}

type source struct {
	name string
	by   rat.Frac
}

func whole(n int) rat.Frac {
	f, _ := rat.Read(rat.Of(int64(n)))
	return f
}

// isName: is it a source's name?
func isName(s string) bool {
	for i := range len(s) {
		if s[i] < 33 || s[i] > 126 {
			return false
		}
	}
	return s != "" && len(s) <= api.MaxName
}

// read: of an uncertain value, if that is right.
func read(m api.Meas) (value, bool) {
	at, right := rat.Read(m.Value)
	if !right || len(m.Sources) > api.MaxSources {
		return value{}, false
	}
	x := value{at: at}
	last := ""
	for _, s := range m.Sources {
		by, right := rat.Read(s.By)
		// The empty text, which is no name, is below each of them.
		if !right || by.Sign() == 0 || !isName(s.Name) || s.Name <= last {
			return value{}, false
		}
		x.sources = append(x.sources, source{s.Name, by})
		last = s.Name
	}
	return x, true
}

func readTwo(a, b api.Meas) (x, y value, e api.Errno) {
	x, right := read(a)
	y, rightToo := read(b)
	if !right || !rightToo {
		return value{}, value{}, api.ErrForm
	}
	return x, y, api.OK
}

// pair: what one source does to each of two values.
type pair struct {
	a, b rat.Frac
}

// together: the sources of both, by their names.
func together(x, y value) map[string]pair {
	none := whole(0)
	pairs := map[string]pair{}
	for _, s := range x.sources {
		pairs[s.name] = pair{s.by, none}
	}
	for _, s := range y.sources {
		p, shared := pairs[s.name]
		if !shared {
			p.a = none
		}
		p.b = s.by
		pairs[s.name] = p
	}
	return pairs
}

// rising gives the sources one by one, by their names.
func rising(pairs map[string]pair) iter.Seq2[string, pair] {
	return func(yield func(string, pair) bool) {
		for _, name := range slices.Sorted(maps.Keys(pairs)) {
			if !yield(name, pairs[name]) {
				return
			}
		}
	}
}

// total: of what join makes of each pair.
func total(pairs map[string]pair, join func(byA, byB rat.Frac) rat.Frac) rat.Frac {
	sum := whole(0)
	for _, p := range rising(pairs) {
		sum = sum.Add(join(p.a, p.b))
	}
	return sum
}

// tell: the uncertain value at a number, with the By that join makes of each pair.
func tell(at rat.Frac, pairs map[string]pair, join func(byA, byB rat.Frac) rat.Frac) (api.Meas, api.Errno) {
	number, e := at.Tell()
	if e != api.OK {
		return api.Meas{}, e
	}
	m := api.Meas{Value: number}
	for name, p := range rising(pairs) {
		by := join(p.a, p.b)
		if by.Sign() == 0 {
			continue
		}
		number, e := by.Tell()
		if e != api.OK {
			return api.Meas{}, e
		}
		m.Sources = append(m.Sources, api.Source{Name: name, By: number})
	}
	if len(m.Sources) > api.MaxSources {
		return api.Meas{}, api.ErrSource
	}
	return m, api.OK
}

// scaled: at a number, with each By so many times as great.
func (x value) scaled(at, times rat.Frac) (api.Meas, api.Errno) {
	return tell(at, together(x, value{}), func(byA, _ rat.Frac) rat.Frac { return byA.Mul(times) })
}
