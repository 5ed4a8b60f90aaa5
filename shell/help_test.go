package shell_test

import (
	"fmt"
	"math"
	"math/rand"
	"regexp"
	"slices"
	"strconv"
	"strings"

	"cubit/api"
	"cubit/book"
	"cubit/conv"
	"cubit/decl"
	"cubit/dim"
	"cubit/exact"
	"cubit/flo"
	"cubit/float"
	"cubit/house"
	"cubit/infer"
	"cubit/ledger"
	"cubit/names"
	"cubit/rat"
	"cubit/show"
	"cubit/spread"
	"cubit/start"
	"cubit/syntax"
	"cubit/tally"
	"cubit/unc"
)

// short: a thing as text, but not all of it.
func short(v any) string { return fmt.Sprintf("%.300s", fmt.Sprintf("%+q", v)) }

func pick[T any](r *rand.Rand, l ...T) T { return l[r.Intn(len(l))] }

// model: the chapter's words, table row by table row, over the layers.
type model struct {
	h     *house.House
	l     *ledger.Ledger
	vars  []api.Bound
	lines []string
	lets  int
}

func newModel() *model {
	h, _ := house.Own()
	return &model{h: h, l: ledger.New(h)}
}

// pattern: of a line of each command; what is in upper case is a number.
var pattern = map[string]string{
	"let": "word word rest", "drop": "word", "vars": "", "exact": "rest", "float": "rest", "spread": "rest", "budget": "rest", "dim": "rest", "show": "NUMBER word rest", "best": "NUMBER word rest", "unit": "word", "const": "word", "near": "word", "way": "rest", "decl": "rest", "build": "", "own": "", "add": "word NUMBER word rest", "correct": "NUMBER word NUMBER word rest", "void": "NUMBER", "list": "", "sum": "word NUMBER NUMBER rest", "mean": "word NUMBER NUMBER rest", "back": "NUMBER", "start": "",
}

var forms = func() map[string]*regexp.Regexp {
	all := make(map[string]*regexp.Regexp)
	for name, p := range pattern {
		form := `(?s)^` + name
		for _, w := range strings.Fields(p) {
			if w == "rest" {
				form += `[ \t]+(.+)`
			} else {
				form += `[ \t]+([^ \t]+)`
			}
		}
		all[name] = regexp.MustCompile(form + `$`)
	}
	return all
}()

var whole = regexp.MustCompile(`^-?[0-9]{1,9}$`)

func fail(why api.Errno) string           { return fmt.Sprintf("error %d", why) }
func failAt(why api.Errno, at int) string { return fmt.Sprintf("error %d at %d", why, at) }
func ratio(r api.Rat) string              { return strings.TrimSuffix(r.Num+"/"+r.Den, "/1") }
func dimension(d api.Dim) string          { s, _ := dim.Print(d); return "[" + s + "]" }
func atoi(s string) int                   { n, _ := strconv.Atoi(s); return n }
func variable(l []api.Bound, s string) int {
	return slices.IndexFunc(l, func(b api.Bound) bool { return b.Name == s })
}
func when(why api.Errno, text string) string {
	if why != api.OK {
		return fail(why)
	}
	return text
}

// line: P30.1.
func (m *model) line(l string) string {
	if len(l) > 65536 {
		return fail(api.ErrSize)
	}
	if strings.ContainsRune(l, '\n') {
		return fail(api.ErrArg)
	}
	l = strings.TrimLeft(strings.TrimRight(l, " \t"), " \t")
	if l == "" || l[0] == '#' {
		return ""
	}
	name := regexp.MustCompile(`^[^ \t]+`).FindString(l)
	if forms[name] == nil {
		return fail(api.ErrCommand)
	}
	w := forms[name].FindStringSubmatch(l)
	if w == nil {
		return fail(api.ErrWords)
	}
	for i, kind := range strings.Fields(pattern[name]) {
		if kind == "NUMBER" && !whole.MatchString(w[i+1]) {
			return fail(api.ErrArg)
		}
	}
	switch name {
	case "let", "drop", "vars", "exact", "float", "spread", "budget", "dim", "show", "best":
		return m.work(name, append(w, "", "", "")[1:])
	case "add", "correct", "void", "list", "sum", "mean", "back":
		return m.keep(name, append(w, "", "", "", "", "")[1:])
	}
	return m.ask(name, append(w, "")[1])
}

// tried: a tree, or the error at its place.
func (m *model) tried(text string, eval func(t api.Tree) (string, api.Errno, int)) string {
	t, why, at := syntax.Parse(text)
	if why != api.OK {
		return failAt(why, at)
	}
	answer, why, node := eval(t)
	if why != api.OK {
		return failAt(why, t.Nodes[node].At)
	}
	return answer
}

func (m *model) work(name string, w []string) string {
	switch name {
	case "let":
		return m.let(w[0], w[1], w[2])
	case "drop":
		name, why, _ := names.Fold(w[0])
		if why != api.OK {
			return fail(why)
		}
		if variable(m.vars, name) < 0 {
			return fail(api.ErrName)
		}
		m.vars = slices.DeleteFunc(slices.Clone(m.vars), func(b api.Bound) bool { return b.Name == name })
		return "dropped " + name
	case "vars":
		all := ""
		for _, v := range m.vars {
			all += " " + v.Name
		}
		return strings.TrimPrefix(all, " ")
	case "exact":
		return m.tried(w[0], func(t api.Tree) (string, api.Errno, int) {
			n, unit, why, at := exact.Told(m.h, t, m.vars)
			return ratio(n) + " " + unit, why, at
		})
	case "float":
		return m.tried(w[0], func(t api.Tree) (string, api.Errno, int) {
			v, why, at := float.Eval(m.h, t, m.vars)
			return flo.Text(math.Float64frombits(v.Bits)) + " " + dimension(v.Dim), why, at
		})
	case "dim":
		return m.tried(w[0], func(t api.Tree) (string, api.Errno, int) {
			d, why, at := infer.Dim(m.h, t, m.vars)
			text, _ := dim.Print(d)
			if kind, ok := dim.Kind(d); ok {
				text += " " + kind
			}
			return text, why, at
		})
	case "spread", "budget":
		return m.tried(w[0], func(t api.Tree) (string, api.Errno, int) {
			v, why, at := spread.Eval(m.h, t, m.vars)
			if name == "spread" {
				text, no := unc.Print(v.Value, 2)
				return when(no, text+" "+dimension(v.Dim)), why, at
			}
			shares, no := spread.Budget(v.Value)
			var all []string
			for _, s := range shares {
				all = append(all, s.Name+" "+ratio(s.By))
			}
			return when(no, strings.Join(all, "; ")), why, at
		})
	}
	return m.tried(w[2], func(t api.Tree) (string, api.Errno, int) {
		q, why, at := exact.Eval(m.h, t, m.vars)
		tell := show.Quant
		if name == "best" {
			tell = show.Best
		}
		text, no := tell(m.h, q, w[1], atoi(w[0]))
		return when(no, text), why, at
	})
}

func (m *model) let(word, sign, text string) string {
	name, why, _ := names.Fold(word)
	if why != api.OK {
		return fail(why)
	}
	if sign != "=" {
		return fail(api.ErrWords)
	}
	return m.tried(text, func(t api.Tree) (string, api.Errno, int) {
		v, why, at := spread.Eval(m.h, t, m.vars)
		if why != api.OK {
			return "", why, at
		}
		text, why := unc.Print(v.Value, 2)
		if why != api.OK {
			return fail(why), api.OK, 0
		}
		if variable(m.vars, name) < 0 && len(m.vars) == 256 {
			return fail(api.ErrFull), api.OK, 0
		}
		m.lets++
		kept, _ := unc.Exact(v.Value.Value)
		for _, s := range v.Value.Sources {
			if s.Name[0] == '#' {
				s.Name = fmt.Sprint(m.lets) + s.Name
			}
			one, _ := unc.New(rat.Of(0), s.By, s.Name)
			kept, _ = unc.Add(kept, one)
		}
		b := api.Bound{Name: name, Value: kept, Dim: v.Dim}
		m.vars = slices.Clone(m.vars)
		if at := variable(m.vars, name); at >= 0 {
			m.vars[at] = b
		} else {
			m.vars = append(m.vars, b)
		}
		return name + " = " + text + " " + dimension(v.Dim), api.OK, 0
	})
}

func (m *model) move(h *house.House) string {
	*m = model{h: h, l: ledger.New(h), lets: m.lets}
	return fmt.Sprintf("house %d %d %d", len(h.Units()), len(h.Consts()), len(h.Prefixes()))
}

func (m *model) ask(name, w string) string {
	switch name {
	case "unit":
		u, why := m.h.Unit(w)
		return when(why, fmt.Sprintf("%s %s %s %s %s", u.Name, u.Symbol, ratio(u.Factor), ratio(u.Offset), dimension(u.Dim)))
	case "const":
		c, why := m.h.Const(w)
		return when(why, fmt.Sprintf("%s %s %s %s %s", c.Name, c.Symbol, ratio(c.Value), ratio(c.Spread), c.Unit))
	case "near":
		var all []string
		for _, u := range m.h.Units() {
			all = append(all, u.Name, u.Symbol)
		}
		return strings.Join(names.Near(w, all, 2), " ")
	case "way":
		sign := regexp.MustCompile(`(^|[ \t])->([ \t]|$)`).FindStringIndex(w)
		if sign == nil {
			return fail(api.ErrWords)
		}
		from, to := strings.TrimRight(w[:sign[0]], " \t"), strings.TrimLeft(w[sign[1]:], " \t")
		if from == "" || to == "" {
			return fail(api.ErrWords)
		}
		hops, why := conv.Way(m.h, from, to)
		var all []string
		for _, p := range hops {
			all = append(all, fmt.Sprintf("%s -> %s %s %s", p.From, p.To, ratio(p.Mul), ratio(p.Add)))
		}
		return when(why, strings.Join(all, "; "))
	case "decl":
		if len(m.lines) == 1024 {
			return fail(api.ErrFull)
		}
		m.lines = append(m.lines, w)
		return fmt.Sprint(len(m.lines))
	case "build":
		text := ""
		for _, l := range m.lines {
			text += l + "\n"
		}
		m.lines = nil
		d, why, at := decl.Parse(text)
		if why != api.OK {
			return failAt(why, at)
		}
		h, why, at := house.Build(d)
		if why != api.OK {
			return failAt(why, at)
		}
		return m.move(h)
	case "own":
		h, _ := house.Own()
		return m.move(h)
	}
	steps, _, _ := start.Order(house.Plan())
	all := ""
	for _, s := range steps {
		all += s.Path + " " + s.What + "\n"
	}
	return strings.TrimSuffix(all, "\n")
}

func (m *model) keep(name string, w []string) string {
	entry := func(what, day, value, unit string) (api.Entry, api.Errno) {
		v, why, _ := unc.Parse(value, "x")
		by, _ := unc.By(v, "x")
		return api.Entry{What: what, Value: v.Value, Spread: by, Unit: unit, Day: atoi(day)}, why
	}
	query := api.Query{What: strings.TrimPrefix(w[0], "*"), From: atoi(w[1]), To: atoi(w[2]), Unit: w[3]}
	if w[0] != "*" {
		query.What = w[0]
	}
	switch name {
	case "add":
		e, why := entry(w[0], w[1], w[2], w[3])
		if why != api.OK {
			return fail(why)
		}
		id, why := m.l.Add(e)
		return when(why, fmt.Sprintf("#%d", id))
	case "correct":
		e, why := entry(w[1], w[2], w[3], w[4])
		if why != api.OK {
			return fail(why)
		}
		id, why := m.l.Correct(atoi(w[0]), e)
		return when(why, fmt.Sprintf("#%d", id))
	case "void":
		return when(m.l.Void(atoi(w[0])), fmt.Sprintf("void #%d", atoi(w[0])))
	case "list":
		text, why, _ := book.Print(m.l.Now())
		return when(why, strings.TrimSuffix(text, "\n"))
	case "sum":
		v, why := m.l.Sum(query)
		if why != api.OK {
			return fail(why)
		}
		text, why := unc.Print(v, 2)
		return when(why, text+" "+w[3])
	case "mean":
		found, why := m.l.Ask(query)
		if why != api.OK {
			return fail(why)
		}
		var all []api.Rat
		for _, e := range found {
			all = append(all, e.Value)
		}
		v, why := tally.Mean(all)
		return when(why, ratio(v)+" "+w[3])
	}
	old, why := m.l.Back(atoi(w[0]))
	if why != api.OK {
		return fail(why)
	}
	m.l = old
	return fmt.Sprint(old.Changes())
}

// run: P30.2.
func run(text string) string {
	m, out := newModel(), ""
	for _, l := range strings.Split(text, "\n") {
		if answer := m.line(l); answer != "" {
			out += answer + "\n"
		}
	}
	return out
}
