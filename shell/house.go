package shell

import (
	"slices"
	"strconv"
	"strings"

	"cubit/api"
	"cubit/conv"
	"cubit/decl"
	"cubit/house"
	"cubit/ledger"
	"cubit/names"
	"cubit/start"
)

const (
	maxLines = 1024 // of declarations
	maxFar   = 2    // of what is near
)

func (s *Shell) unit(l said) (string, error) {
	u, why := s.house.Unit(l.texts[0])
	if why != api.OK {
		return "", refused{why}
	}
	return joined(" ", u.Name, u.Symbol, ratio(u.Factor), ratio(u.Offset), bracketed(u.Dim)), nil
}

func (s *Shell) constant(l said) (string, error) {
	c, why := s.house.Const(l.texts[0])
	if why != api.OK {
		return "", refused{why}
	}
	return joined(" ", c.Name, c.Symbol, ratio(c.Value), ratio(c.Spread), c.Unit), nil
}

func (s *Shell) near(l said) (string, error) {
	var all []string
	for _, u := range s.house.Units() {
		all = append(all, u.Name, u.Symbol)
	}
	return joined(" ", names.Near(l.texts[0], all, maxFar)...), nil
}

func (s *Shell) way(l said) (string, error) {
	from, to := parted(l.texts[0])
	if from == "" || to == "" {
		return "", errWords
	}
	hops, why := conv.Way(s.house, from, to)
	var texts []string
	for _, h := range hops {
		texts = append(texts, joined(" ", h.From, "->", h.To, ratio(h.Mul), ratio(h.Add)))
	}
	return joined("; ", texts...), unless(why)
}

// parted: what stands ahead of the first word that is ->, and behind it; nothing, if none is.
func parted(text string) (string, string) {
	for rest := text; rest != ""; {
		ahead := text[:len(text)-len(rest)]
		word := ""
		if word, rest = cut(rest); word == "->" {
			return strings.TrimRight(ahead, blanks), rest
		}
	}
	return "", ""
}

func (s *Shell) declare(l said) (string, error) {
	if len(s.lines) >= maxLines {
		return "", errFull
	}
	s.lines = append(s.lines, l.texts[0])
	return strconv.Itoa(len(s.lines)), nil
}

// build: the only command that changes something when it tells an error, too: the lines are gone.
func (s *Shell) build(said) (string, error) {
	text := joined("\n", slices.Concat(s.lines, []string{""})...)
	s.lines = nil
	decls, why, at := decl.Parse(text)
	if why != api.OK {
		return "", placed{refused{why}, at}
	}
	h, why, at := house.Build(decls)
	if why != api.OK {
		return "", placed{refused{why}, at}
	}
	return s.moved(h), nil
}

func (s *Shell) goHome(said) (string, error) { return s.moved(s.own), nil }

// moved: begins anew in a house, and tells how much that has.
func (s *Shell) moved(h *house.House) string {
	s.house, s.ledger, s.vars, s.lines = h, ledger.New(h), nil, nil
	return joined(" ", "house", strconv.Itoa(len(h.Units())), strconv.Itoa(len(h.Consts())), strconv.Itoa(len(h.Prefixes())))
}

func (s *Shell) start(said) (string, error) {
	steps, why, _ := start.Order(house.Plan())
	var texts []string
	for _, step := range steps {
		texts = append(texts, joined(" ", step.Path, step.What))
	}
	return joined("\n", texts...), unless(why)
}
