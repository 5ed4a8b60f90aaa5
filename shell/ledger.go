package shell

import (
	"strconv"
	"strings"

	"cubit/api"
	"cubit/book"
	"cubit/tally"
	"cubit/unc"
)

// anything: asks for entries whatever they tell of.
const anything = "*"

func (s *Shell) add(l said) (string, error) {
	e, err := measured(l.texts[0], l.numbers[1], l.texts[2], l.texts[3])
	if err != nil {
		return "", err
	}
	id, why := s.ledger.Add(e)
	return numbered(id, why)
}

func (s *Shell) correct(l said) (string, error) {
	e, err := measured(l.texts[1], l.numbers[2], l.texts[3], l.texts[4])
	if err != nil {
		return "", err
	}
	id, why := s.ledger.Correct(l.numbers[0], e)
	return numbered(id, why)
}

func (s *Shell) void(l said) (string, error) {
	why := s.ledger.Void(l.numbers[0])
	text, err := numbered(l.numbers[0], why)
	if err != nil {
		return "", err
	}
	return joined(" ", "void", text), nil
}

func (s *Shell) list(said) (string, error) {
	text, why, _ := book.Print(s.ledger.Now())
	return strings.TrimSuffix(text, "\n"), unless(why)
}

func (s *Shell) sum(l said) (string, error) {
	m, why := s.ledger.Sum(query(l))
	if why != api.OK {
		return "", refused{why}
	}
	return uncertain(m, l.texts[3])
}

func (s *Shell) mean(l said) (string, error) {
	found, why := s.ledger.Ask(query(l))
	if why != api.OK {
		return "", refused{why}
	}
	var values []api.Rat
	for _, e := range found {
		values = append(values, e.Value)
	}
	mean, why := tally.Mean(values)
	if why != api.OK {
		return "", refused{why}
	}
	return joined(" ", ratio(mean), l.texts[3]), nil
}

func (s *Shell) back(l said) (string, error) {
	old, why := s.ledger.Back(l.numbers[0])
	if why != api.OK {
		return "", refused{why}
	}
	s.ledger = old
	return strconv.Itoa(old.Changes()), nil
}

// measured: an entry, its value as unc reads it.
func measured(what string, day int, value, unit string) (api.Entry, error) {
	const source = "x"
	m, why, _ := unc.Parse(value, source)
	if why != api.OK {
		return api.Entry{}, refused{why}
	}
	spread, _ := unc.By(m, source)
	return api.Entry{What: what, Value: m.Value, Spread: spread, Unit: unit, Day: day}, nil
}

// query: what sum and mean ask for.
func query(l said) api.Query {
	q := api.Query{What: l.texts[0], From: l.numbers[1], To: l.numbers[2], Unit: l.texts[3]}
	if q.What == anything {
		q.What = ""
	}
	return q
}

func numbered(id int, why api.Errno) (string, error) {
	if why != api.OK {
		return "", refused{why}
	}
	return "#" + strconv.Itoa(id), nil
}
