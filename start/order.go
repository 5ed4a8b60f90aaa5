package start

import (
	"slices"
	"strings"

	"cubit/api"
)

// waiting: a step that comes behind others.
type waiting struct {
	step   api.Step
	behind []api.Step // those of which it is not known yet that they are taken
}

// inOrder: again and again the first one that is not taken, while all behind which it comes are. None may come behind itself.
func inOrder(l []waiting) []api.Step {
	var order []api.Step
	taken := make(map[api.Step]int)
again:
	for i := range l {
		w := &l[i]
		for len(w.behind) > 0 && taken[w.behind[0]] > 0 {
			w.behind = w.behind[1:]
		}
		if len(w.behind) == 0 && taken[w.step] == 0 {
			taken[w.step]++
			order = append(order, w.step)
			goto again
		}
	}
	return order
}

// packs: a program's packages by their paths, each behind those that it imports.
func packs(l []api.Package) []waiting {
	var all []waiting
	for _, p := range l {
		w := waiting{step: api.Step{Path: p.Path}}
		for _, path := range p.Imports {
			w.behind = append(w.behind, api.Step{Path: path})
		}
		all = append(all, w)
	}
	slices.SortFunc(all, func(a, b waiting) int { return strings.Compare(a.step.Path, b.step.Path) })
	return all
}

// thing: a variable or a function, with what it uses of its own package.
type thing struct {
	name     string
	uses     []string
	variable bool
}

// contents of a package: its variables and functions, in the order of the text, file by file, and where each stands.
type contents struct {
	path   string
	things []thing
	at     map[string]int
}

func contentsOf(p api.Package) contents {
	c := contents{path: p.Path, at: make(map[string]int)}
	for _, f := range filesOf(p) {
		for _, v := range f.Vars {
			c.put(thing{v.Name, within(v.Uses), true})
		}
		for _, v := range f.Funcs {
			c.put(thing{v.Name, within(v.Uses), false})
		}
	}
	return c
}

func (c *contents) put(t thing) {
	c.at[t.name] = len(c.things)
	c.things = append(c.things, t)
}

// within: the names without a point. What other packages have stands already.
func within(uses []string) []string {
	var own []string
	for _, name := range uses {
		if _, _, pointed := cut(name); !pointed {
			own = append(own, name)
		}
	}
	return own
}

// variables: in their order.
func (c contents) variables() []api.Step {
	var all []waiting
	for _, t := range c.things {
		if t.variable {
			all = append(all, waiting{step: c.step(t), behind: c.leans(t)})
		}
	}
	return inOrder(all)
}

func (c contents) step(t thing) api.Step { return api.Step{Path: c.path, What: t.name} }

// leans: the variables that a thing uses, straight or by functions. On what these lean is not looked at: they come behind that themselves.
func (c contents) leans(t thing) []api.Step {
	var on []api.Step
	seen := make(map[string]int)
	var follow func(uses []string)
	follow = func(uses []string) {
		for _, name := range uses {
			if seen[name]++; seen[name] > 1 {
				continue
			}
			used := c.things[c.at[name]]
			if used.variable {
				on = append(on, c.step(used))
			} else {
				follow(used.uses)
			}
		}
	}
	follow(t.uses)
	return on
}
