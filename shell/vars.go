package shell

import (
	"slices"
	"strconv"
	"strings"

	"cubit/api"
	"cubit/names"
	"cubit/spread"
)

const (
	maxVars      = 256
	spreadDigits = 2
)

func (s *Shell) let(l said) (string, error) {
	name, why, _ := names.Fold(l.texts[0])
	switch {
	case why != api.OK:
		return "", refused{why}
	case l.texts[1] != "=":
		return "", errWords
	}
	v, err := worked(s, l.texts[2], spread.Eval)
	if err != nil {
		return "", err
	}
	text, err := uncertain(v.Value, bracketed(v.Dim))
	if err != nil {
		return "", err
	}
	at := s.find(name)
	switch {
	case at < len(s.vars):
	case len(s.vars) >= maxVars:
		return "", errFull
	default:
		s.vars = append(s.vars, api.Bound{})
	}
	s.lets++
	s.vars[at] = api.Bound{Name: name, Value: ofLet(v.Value, s.lets), Dim: v.Dim}
	return joined(" ", name, "=", text), nil
}

func (s *Shell) drop(l said) (string, error) {
	name, why, _ := names.Fold(l.texts[0])
	if why != api.OK {
		return "", refused{why}
	}
	at := s.find(name)
	if at == len(s.vars) {
		return "", errName
	}
	s.vars = slices.Delete(s.vars, at, at+1)
	return joined(" ", "dropped", name), nil
}

func (s *Shell) names(said) (string, error) {
	var all []string
	for _, v := range s.vars {
		all = append(all, v.Name)
	}
	return joined(" ", all...), nil
}

// find: where a variable stands, or would stand as a new one.
func (s *Shell) find(name string) int {
	at := slices.IndexFunc(s.vars, func(v api.Bound) bool { return v.Name == name })
	if at < 0 {
		return len(s.vars)
	}
	return at
}

// ofLet: a value whose numbers' sources are called by a let's number, too: so those of other lines are other ones.
func ofLet(m api.Meas, let int) api.Meas {
	m.Sources = slices.Clone(m.Sources)
	for i, source := range m.Sources {
		if strings.HasPrefix(source.Name, "#") {
			m.Sources[i].Name = strconv.Itoa(let) + source.Name
		}
	}
	slices.SortFunc(m.Sources, func(a, b api.Source) int { return strings.Compare(a.Name, b.Name) })
	return m
}
