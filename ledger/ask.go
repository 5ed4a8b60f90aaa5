package ledger

import (
	"slices"
	"strconv"

	"cubit/api"
	"cubit/conv"
	"cubit/rat"
	"cubit/unc"
)

// Ask: those that count and are asked for, in a unit.
func (l *Ledger) Ask(q api.Query) ([]api.Entry, api.Errno) {
	switch {
	case l == nil:
		return nil, api.ErrNil
	case q.Unit == "":
		return l.those(func(e api.Entry) bool { return l.answers(e, q) }), api.OK
	}
	into, why, _ := conv.Unit(l.over, q.Unit)
	if why != api.OK {
		return nil, why
	}
	found := l.those(func(e api.Entry) bool { return l.answers(e, q) && l.counting[e.Id].Dim == into.Dim })
	for i, e := range found {
		if found[i], why = converted(e, l.counting[e.Id], into); why != api.OK {
			return nil, why
		}
		found[i].Unit = q.Unit
	}
	return found, api.OK
}

// answers: does an entry count, and is it what is asked for, its unit aside?
func (l *Ledger) answers(e api.Entry, q api.Query) bool {
	switch {
	case !l.counts(e):
		return false
	case q.What != "" && e.What != q.What:
		return false
	case q.Tag != "" && !slices.Contains(e.Tags, q.Tag):
		return false
	}
	return q.From <= e.Day && e.Day <= q.To
}

// Sum: of what is asked for, in a unit.
func (l *Ledger) Sum(q api.Query) (api.Meas, api.Errno) {
	switch {
	case l == nil:
		return api.Meas{}, api.ErrNil
	case q.Unit == "":
		return api.Meas{}, api.ErrUnit
	}
	found, why := l.Ask(q)
	if why != api.OK {
		return api.Meas{}, why
	}
	return total(found).Tell()
}

// total: of all entries, half by half: so long numbers and long lists of sources come in few of the steps.
func total(l []api.Entry) unc.Value {
	sum, _ := unc.Read(api.Meas{Value: rat.Of(0)})
	switch len(l) {
	case 0:
		return sum
	case 1:
		sum, _ = unc.Read(measured(l[0]))
		return sum
	}
	half := len(l) / 2
	return total(l[:half]).Add(total(l[half:]))
}

// measured: an entry's value, uncertain by itself.
func measured(e api.Entry) api.Meas {
	m, _ := unc.New(e.Value, e.Spread, source(e))
	return m
}

func source(e api.Entry) string { return "#" + strconv.Itoa(e.Id) }

// converted: an entry of one unit, its numbers as those of another; ErrLarge.
func converted(e api.Entry, from, to api.Unit) (api.Entry, api.Errno) {
	m, why := conv.Between(measured(e), from, to)
	if why != api.OK {
		return api.Entry{}, why
	}
	e.Value = m.Value
	e.Spread, _ = unc.By(m, source(e))
	return e, api.OK
}
