package shell

import (
	"math"

	"cubit/api"
	"cubit/dim"
	"cubit/exact"
	"cubit/flo"
	"cubit/float"
	"cubit/house"
	"cubit/infer"
	"cubit/rat"
	"cubit/show"
	"cubit/spread"
	"cubit/syntax"
	"cubit/unc"
)

// worked: what a layer makes of an expression, with the variables; or what is wrong, at its place in the text.
func worked[T any](s *Shell, text string, layer func(*house.House, api.Tree, []api.Bound) (T, api.Errno, int)) (T, error) {
	var none T
	tree, why, at := syntax.Parse(text)
	if why != api.OK {
		return none, placed{refused{why}, at}
	}
	answer, why, node := layer(s.house, tree, s.vars)
	if why != api.OK {
		return none, placed{refused{why}, tree.Nodes[node].At}
	}
	return answer, nil
}

func (s *Shell) exact(l said) (string, error) {
	unit := ""
	number, err := worked(s, l.texts[0], func(h *house.House, t api.Tree, vars []api.Bound) (number api.Rat, why api.Errno, node int) {
		number, unit, why, node = exact.Told(h, t, vars)
		return number, why, node
	})
	if err != nil {
		return "", err
	}
	return joined(" ", ratio(number), unit), nil
}

func (s *Shell) float(l said) (string, error) {
	r, err := worked(s, l.texts[0], float.Eval)
	if err != nil {
		return "", err
	}
	return joined(" ", flo.Text(math.Float64frombits(r.Bits)), bracketed(r.Dim)), nil
}

func (s *Shell) spread(l said) (string, error) {
	v, err := worked(s, l.texts[0], spread.Eval)
	if err != nil {
		return "", err
	}
	return uncertain(v.Value, bracketed(v.Dim))
}

func (s *Shell) budget(l said) (string, error) {
	v, err := worked(s, l.texts[0], spread.Eval)
	if err != nil {
		return "", err
	}
	shares, why := spread.Budget(v.Value)
	var texts []string
	for _, share := range shares {
		texts = append(texts, joined(" ", share.Name, ratio(share.By)))
	}
	return joined("; ", texts...), unless(why)
}

func (s *Shell) dim(l said) (string, error) {
	d, err := worked(s, l.texts[0], infer.Dim)
	if err != nil {
		return "", err
	}
	text, _ := dim.Print(d)
	if kind, ok := dim.Kind(d); ok {
		text = joined(" ", text, kind)
	}
	return text, nil
}

func (s *Shell) show(l said) (string, error) { return s.shown(l, show.Quant) }
func (s *Shell) best(l said) (string, error) { return s.shown(l, show.Best) }

// shown: an expression, behind its digits and its unit, as package show tells it.
func (s *Shell) shown(l said, as func(*house.House, api.Quant, string, int) (string, api.Errno)) (string, error) {
	q, err := worked(s, l.texts[2], exact.Eval)
	if err != nil {
		return "", err
	}
	text, why := as(s.house, q, l.texts[1], l.numbers[0])
	return text, unless(why)
}

// ratio: of a number that a layer tells.
func ratio(r api.Rat) string {
	text, _ := rat.Print(r)
	return text
}

func bracketed(d api.Dim) string {
	text, _ := dim.Print(d)
	return "[" + text + "]"
}

// uncertain: a value with its spread, and what is told behind it.
func uncertain(m api.Meas, behind ...string) (string, error) {
	text, why := unc.Print(m, spreadDigits)
	if why != api.OK {
		return "", refused{why}
	}
	return joined(" ", append([]string{text}, behind...)...), nil
}
