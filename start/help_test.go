package start_test

import (
	"fmt"
	"maps"
	"math/big"
	"regexp"
	"slices"
	"strings"
	"testing"

	"cubit/api"
	"cubit/start"
)

// short: a thing as text, but not all of it.
func short(v any) string { return fmt.Sprintf("%.400s", fmt.Sprintf("%+v", v)) }

// program: of a text, a line each: "package PATH IMPORT ..", "file NAME INITS", "var NAME USE ..", "func NAME USE ..".
func program(t testing.TB, text string) []api.Package {
	t.Helper()
	var l []api.Package
	for line := range strings.Lines(text) {
		words := strings.Fields(line)
		if len(words) == 0 {
			continue
		}
		switch words[0] {
		case "package":
			l = append(l, api.Package{Path: words[1], Imports: words[2:]})
			continue
		case "file":
			p := &l[len(l)-1]
			p.Files = append(p.Files, api.File{Name: words[1]})
			fmt.Sscan(words[2], &p.Files[len(p.Files)-1].Inits)
			continue
		}
		files := l[len(l)-1].Files
		f := &files[len(files)-1]
		switch words[0] {
		case "var":
			f.Vars = append(f.Vars, api.Var{Name: words[1], Uses: words[2:]})
		case "func":
			f.Funcs = append(f.Funcs, api.Func{Name: words[1], Uses: words[2:]})
		default:
			t.Fatal(line)
		}
	}
	return l
}

// steps: of a text: a path, a blank, what; a comma between two.
func steps(text string) []api.Step {
	var l []api.Step
	for _, part := range strings.Split(text, ", ") {
		path, what, _ := strings.Cut(part, " ")
		l = append(l, api.Step{Path: path, What: what})
	}
	return l
}

func checkOrder(t *testing.T, l []api.Package, want []api.Step, is api.Errno, blame ...string) {
	t.Helper()
	got, e, names := start.Order(l)
	if !slices.Equal(got, want) || e != is || !slices.Equal(names, blame) {
		t.Errorf("Order(%s) = %s, %d, %q, not %s, %d, %q", short(l), short(got), e, names, short(want), is, blame)
	}
}

func checkPackages(t *testing.T, l []api.Package, want []string, is api.Errno, blame ...string) {
	t.Helper()
	got, e, names := start.Packages(l)
	if !slices.Equal(got, want) || e != is || !slices.Equal(names, blame) {
		t.Errorf("Packages(%s) = %s, %d, %q, not %s, %d, %q", short(l), short(got), e, names, short(want), is, blame)
	}
}

func checkVars(t *testing.T, p api.Package, want []string, is api.Errno, blame ...string) {
	t.Helper()
	got, e, names := start.Vars(p)
	if !slices.Equal(got, want) || e != is || !slices.Equal(names, blame) {
		t.Errorf("Vars(%s) = %s, %d, %q, not %s, %d, %q", short(p), short(got), e, names, short(want), is, blame)
	}
}

// checkWrong: a fault of 1 to 4, which all three calls tell of a package by itself.
func checkWrong(t *testing.T, p api.Package, is api.Errno, blame ...string) {
	t.Helper()
	checkOrder(t, []api.Package{p}, nil, is, blame...)
	checkPackages(t, []api.Package{p}, nil, is, blame...)
	checkVars(t, p, nil, is, blame...)
}

// model: the chapter in its own words, without regard to time.
type model struct {
	l     []api.Package
	alone bool // of one package, as Vars takes it
}

type seen struct{ what, in, text string }

// each goes through all texts, in the order in which the first place counts, until one is at fault.
func (m model) each(look func(s seen) (api.Errno, bool)) (api.Errno, []string) {
	var all []seen
	for _, p := range m.l {
		all = append(all, seen{"path", p.Path, p.Path})
		for _, i := range p.Imports {
			all = append(all, seen{"import", p.Path, i})
		}
		for _, f := range p.Files {
			all = append(all, seen{"file", p.Path, f.Name})
			for _, v := range f.Vars {
				all = append(all, seen{"name", p.Path, v.Name})
				for _, u := range v.Uses {
					all = append(all, seen{"use", p.Path, u})
				}
			}
			for _, v := range f.Funcs {
				all = append(all, seen{"name", p.Path, v.Name})
				for _, u := range v.Uses {
					all = append(all, seen{"use", p.Path, u})
				}
			}
		}
	}
	for _, s := range all {
		if e, wrong := look(s); wrong {
			return e, []string{s.text}
		}
	}
	return api.OK, nil
}

func (m model) size() (api.Errno, []string) {
	sum := big.NewInt(int64(len(m.l)))
	add := func(n int) { sum.Add(sum, big.NewInt(int64(n))) }
	below := false
	for _, p := range m.l {
		add(len(p.Imports) + len(p.Files))
		for _, f := range p.Files {
			add(len(f.Vars) + len(f.Funcs))
			add(f.Inits)
			below = below || f.Inits < 0
			for _, v := range f.Vars {
				add(len(v.Uses))
			}
			for _, v := range f.Funcs {
				add(len(v.Uses))
			}
		}
	}
	if below || sum.Cmp(big.NewInt(1024)) > 0 {
		return api.ErrSize, nil
	}
	return api.OK, nil
}

var (
	paths  = regexp.MustCompile(`^[a-z0-9_/-]{1,40}$`)
	idents = regexp.MustCompile(`^[A-Za-z_][A-Za-z0-9_]{0,39}$`)
)

func (m model) form() (api.Errno, []string) {
	return m.each(func(s seen) (api.Errno, bool) {
		switch s.what {
		case "path", "import":
			return api.ErrForm, !paths.MatchString(s.text)
		case "file":
			return api.ErrForm, s.text == "" || len(s.text) > 40
		case "name":
			return api.ErrForm, !idents.MatchString(s.text) || s.text == "init"
		}
		return api.OK, false
	})
}

func (m model) twice() (api.Errno, []string) {
	var ahead []seen
	return m.each(func(s seen) (api.Errno, bool) {
		if s.what == "use" {
			return api.OK, false
		}
		if s.what == "path" {
			s.in = ""
		}
		if slices.Contains(ahead, s) {
			return api.ErrTwice, true
		}
		ahead = append(ahead, s)
		return api.OK, false
	})
}

func (m model) pack(path string) (api.Package, bool) {
	at := slices.IndexFunc(m.l, func(p api.Package) bool { return p.Path == path })
	if at < 0 {
		return api.Package{}, false
	}
	return m.l[at], true
}

// uses: of each name of a package what it uses, and which names are variables.
func uses(p api.Package) (of map[string][]string, variables map[string]bool) {
	of, variables = map[string][]string{}, map[string]bool{}
	for _, f := range p.Files {
		for _, v := range f.Vars {
			of[v.Name], variables[v.Name] = v.Uses, true
		}
		for _, v := range f.Funcs {
			of[v.Name] = v.Uses
		}
	}
	return of, variables
}

func (m model) lost() (api.Errno, []string) {
	return m.each(func(s seen) (api.Errno, bool) {
		in, _ := m.pack(s.in)
		own, _ := uses(in)
		switch s.what {
		case "import":
			_, there := m.pack(s.text)
			return api.ErrImport, !there && !m.alone
		case "use":
			point := strings.LastIndex(s.text, ".")
			if point < 0 {
				_, there := own[s.text]
				return api.ErrNone, !there
			}
			other, _ := m.pack(s.text[:point])
			of, _ := uses(other)
			_, there := of[s.text[point+1:]]
			return api.ErrImport, !slices.Contains(in.Imports, s.text[:point]) || !there && !m.alone
		}
		return api.OK, false
	})
}

// rings: all cycles of a web, each in all its tellings.
func rings(next map[string][]string) [][]string {
	var all [][]string
	var walk func(way []string)
	walk = func(way []string) {
		for _, to := range next[way[len(way)-1]] {
			if to == way[0] {
				all = append(all, slices.Clone(way))
			} else if !slices.Contains(way, to) {
				walk(append(slices.Clone(way), to))
			}
		}
	}
	for name := range next {
		walk([]string{name})
	}
	return all
}

// best: of the shortest tellings the first one.
func best(all [][]string, may func(ring []string) bool) []string {
	var first []string
	for _, r := range all {
		if may(r) && (first == nil || len(r) < len(first) || len(r) == len(first) && slices.Compare(r, first) < 0) {
			first = r
		}
	}
	return first
}

func (m model) importRing() []string {
	next := map[string][]string{}
	for _, p := range m.l {
		next[p.Path] = p.Imports
	}
	return best(rings(next), func(r []string) bool { return r[0] == slices.Min(r) })
}

func varRing(p api.Package) []string {
	next, variables := uses(p)
	return best(rings(next), func(r []string) bool { return variables[r[0]] })
}

// text: a package's variables in the order of its text.
func text(p api.Package) []string {
	files := slices.SortedFunc(slices.Values(p.Files), func(a, b api.File) int { return strings.Compare(a.Name, b.Name) })
	var l []string
	for _, f := range files {
		for _, v := range f.Vars {
			l = append(l, v.Name)
		}
	}
	return l
}

// reached: all names to which one leads, by others too.
func reached(next map[string][]string, from string) map[string]bool {
	all := map[string]bool{}
	for more := []string{from}; len(more) > 0; more = more[1:] {
		for _, to := range next[more[0]] {
			if !all[to] {
				all[to] = true
				more = append(more, to)
			}
		}
	}
	return all
}

// taken: again and again the first one of which nothing is missing.
func taken(l []string, next map[string][]string) []string {
	var order []string
	for range l {
		for _, name := range l {
			ready := !slices.Contains(order, name)
			for other := range reached(next, name) {
				ready = ready && (slices.Contains(order, other) || !slices.Contains(l, other))
			}
			if ready {
				order = append(order, name)
				break
			}
		}
	}
	return order
}

func (m model) packages() ([]string, api.Errno, []string) {
	for _, round := range []func() (api.Errno, []string){m.size, m.form, m.twice, m.lost} {
		if e, blame := round(); e != api.OK {
			return nil, e, blame
		}
	}
	if m.alone {
		return []string{m.l[0].Path}, api.OK, nil
	}
	if ring := m.importRing(); ring != nil {
		return nil, api.ErrCycle, ring
	}
	next := map[string][]string{}
	for _, p := range m.l {
		next[p.Path] = p.Imports
	}
	return taken(slices.Sorted(maps.Keys(next)), next), api.OK, nil
}

func (m model) order() ([]api.Step, api.Errno, []string) {
	all, e, blame := m.packages()
	if e != api.OK {
		return nil, e, blame
	}
	var l []api.Step
	for _, path := range all {
		p, _ := m.pack(path)
		if ring := varRing(p); ring != nil {
			return nil, api.ErrCycle, ring
		}
		next, _ := uses(p)
		for _, name := range taken(text(p), next) {
			l = append(l, api.Step{Path: path, What: name})
		}
		inits := 0
		for _, f := range p.Files {
			inits += f.Inits
		}
		for n := range inits {
			l = append(l, api.Step{Path: path, What: fmt.Sprintf("init %d", n+1)})
		}
	}
	return l, api.OK, nil
}

func (m model) vars() ([]string, api.Errno, []string) {
	l, e, blame := m.order()
	var names []string
	for _, s := range l {
		if !strings.HasPrefix(s.What, "init ") {
			names = append(names, s.What)
		}
	}
	return names, e, blame
}

// copied: a program in memory of its own.
func copied(l []api.Package) []api.Package {
	l = slices.Clone(l)
	for i := range l {
		l[i].Imports, l[i].Files = slices.Clone(l[i].Imports), slices.Clone(l[i].Files)
		for j := range l[i].Files {
			f := &l[i].Files[j]
			f.Vars, f.Funcs = slices.Clone(f.Vars), slices.Clone(f.Funcs)
			for k := range f.Vars {
				f.Vars[k].Uses = slices.Clone(f.Vars[k].Uses)
			}
			for k := range f.Funcs {
				f.Funcs[k].Uses = slices.Clone(f.Funcs[k].Uses)
			}
		}
	}
	return l
}

// checkModel: all three calls tell what the model does, and change nothing.
func checkModel(t *testing.T, l []api.Package) (right bool) {
	t.Helper()
	before := fmt.Sprint(l)
	m := model{l: l}
	want, e, blame := m.order()
	checkOrder(t, l, want, e, blame...)
	right = e == api.OK
	all, e, blame := m.packages()
	checkPackages(t, l, all, e, blame...)
	for _, p := range l {
		names, e, blame := model{l: []api.Package{p}, alone: true}.vars()
		checkVars(t, p, names, e, blame...)
	}
	if after := fmt.Sprint(l); after != before {
		t.Errorf("%.400s has become %.400s", before, after)
	}
	return right
}
