package start_test

import (
	"fmt"
	"go/ast"
	"go/parser"
	"go/token"
	"go/types"
	"maps"
	"math/rand"
	"slices"
	"strings"
	"testing"

	"cubit/api"
	"cubit/start"
)

// one: of some texts.
func one(r *rand.Rand, l ...string) string { return l[r.Intn(len(l))] }

// made: a small program, with a fault now and then.
func made(r *rand.Rand) []api.Package {
	var l []api.Package
	odd := func(text string, others ...string) string {
		if r.Intn(60) == 0 {
			return one(r, others...)
		}
		return text
	}
	paths := []string{"m/a", "m/b", "m/c", "k", "z"}[:1+r.Intn(5)]
	r.Shuffle(len(paths), func(i, j int) { paths[i], paths[j] = paths[j], paths[i] })
	for n, path := range paths {
		p := api.Package{Path: odd(path, "m/a", "", "M", "a.b")}
		for m, other := range paths {
			if m != n && r.Intn(3) == 0 && (m > n || r.Intn(4) == 0) || r.Intn(60) == 0 {
				p.Imports = append(p.Imports, odd(other, "m/a", "q", "Q", path))
			}
		}
		r.Shuffle(len(p.Imports), func(i, j int) { p.Imports[i], p.Imports[j] = p.Imports[j], p.Imports[i] })
		filled(r, &p, odd)
		l = append(l, p)
	}
	return l
}

// filled: with files, variables and functions, which use one another mostly the one way round.
func filled(r *rand.Rand, p *api.Package, odd func(text string, others ...string) string) {
	names := []string{"a", "b", "B", "c", "f", "g"}[:r.Intn(7)]
	r.Shuffle(len(names), func(i, j int) { names[i], names[j] = names[j], names[i] })
	for _, file := range []string{"y", "x", "w"}[:1+r.Intn(3)] {
		p.Files = append(p.Files, api.File{Name: odd(file, "x", ""), Inits: r.Intn(3)})
	}
	for n, name := range names {
		f := &p.Files[r.Intn(len(p.Files))]
		var uses []string
		for m, other := range names {
			if r.Intn(3) == 0 && (m > n || r.Intn(12) == 0) {
				uses = append(uses, odd(other, "q", "", "m/a.a", "init", ".", "m/b.f"))
			}
		}
		if len(p.Imports) > 0 && r.Intn(4) == 0 {
			uses = append(uses, odd(one(r, p.Imports...)+".", "k.")+one(r, "a", "b", "f"))
		}
		r.Shuffle(len(uses), func(i, j int) { uses[i], uses[j] = uses[j], uses[i] })
		if name = odd(name, "a", "init", "", "1"); r.Intn(3) == 0 {
			f.Funcs = append(f.Funcs, api.Func{Name: name, Uses: uses})
		} else {
			f.Vars = append(f.Vars, api.Var{Name: name, Uses: uses})
		}
	}
}

// P15.1, P15.2: against the chapter in its own words; what follows of what is told.
func TestModel(t *testing.T) {
	r := rand.New(rand.NewSource(15))
	told := map[api.Errno]int{}
	for range 8000 {
		l := made(r)
		_, e, _ := start.Order(l)
		told[e]++
		if checkModel(t, l) {
			follows(t, r, l)
		} else {
			turns(t, l)
		}
		if t.Failed() {
			break
		}
	}
	for _, e := range []api.Errno{api.OK, api.ErrForm, api.ErrTwice, api.ErrNone, api.ErrImport, api.ErrCycle} {
		if told[e] < 30 {
			t.Error("only a few times:", e, told[e])
		}
	}
}

// shuffled: the order of the list, of imports, of files, of names used is another one.
func shuffled(r *rand.Rand, l []api.Package) []api.Package {
	l = copied(l)
	mix := func(s []string) { r.Shuffle(len(s), func(i, j int) { s[i], s[j] = s[j], s[i] }) }
	r.Shuffle(len(l), func(i, j int) { l[i], l[j] = l[j], l[i] })
	for _, p := range l {
		mix(p.Imports)
		r.Shuffle(len(p.Files), func(i, j int) { p.Files[i], p.Files[j] = p.Files[j], p.Files[i] })
		for _, f := range p.Files {
			for _, v := range f.Vars {
				mix(v.Uses)
			}
			for _, v := range f.Funcs {
				mix(v.Uses)
			}
		}
	}
	return l
}

// follows: P15.3, P15.4 and P15.5 of a right program.
func follows(t *testing.T, r *rand.Rand, l []api.Package) {
	t.Helper()
	order, _, _ := start.Order(l)
	checkOrder(t, shuffled(r, l), order, api.OK)
	where := map[api.Step]int{}
	first, last := map[string]int{}, map[string]int{}
	for n, s := range order {
		if _, ok := where[s]; ok {
			t.Errorf("%v stands twice in %v", s, order)
		}
		where[s] = n
		if _, ok := first[s.Path]; !ok {
			first[s.Path] = n
		} else if last[s.Path] != n-1 {
			t.Errorf("%s does not stand together in %v", s.Path, order)
		}
		last[s.Path] = n
	}
	count := 0
	for _, p := range l {
		next, _ := uses(p)
		for _, name := range text(p) {
			count++
			for other := range reached(next, name) {
				if slices.Contains(text(p), other) && where[api.Step{Path: p.Path, What: other}] >= where[api.Step{Path: p.Path, What: name}] {
					t.Errorf("%s stands ahead of %s in %v", name, other, order)
				}
			}
		}
		for _, f := range p.Files {
			count += f.Inits
		}
		for _, path := range p.Imports {
			_, here := first[p.Path]
			if end, ok := last[path]; ok && here && end > first[p.Path] {
				t.Errorf("%s stands ahead of %s in %v", p.Path, path, order)
			}
		}
		firstOfAll(t, p)
	}
	if count != len(order) {
		t.Errorf("%d steps, not %d", len(order), count)
	}
}

// firstOfAll: P15.5, of all orders in which each variable stands behind those on which it leans.
func firstOfAll(t *testing.T, p api.Package) {
	t.Helper()
	all := text(p)
	if len(all) > 5 {
		return
	}
	next, _ := uses(p)
	var first []string
	var goOn func(done []string)
	goOn = func(done []string) {
		if first != nil {
			return
		}
		if len(done) == len(all) {
			first = slices.Clone(done)
			return
		}
		for _, name := range all { // so the first one that is found is the first of all
			may := !slices.Contains(done, name)
			for other := range reached(next, name) {
				may = may && (!slices.Contains(all, other) || slices.Contains(done, other))
			}
			if may {
				goOn(append(slices.Clone(done), name))
			}
		}
	}
	goOn(nil)
	checkVars(t, p, first, api.OK)
}

// turns: P15.6: a cycle that is told is one.
func turns(t *testing.T, l []api.Package) {
	t.Helper()
	_, e, ring := start.Order(l)
	if e != api.ErrCycle {
		return
	}
	webs := []map[string][]string{{}}
	for _, p := range l {
		webs[0][p.Path] = p.Imports
		next, _ := uses(p)
		webs = append(webs, next)
	}
	is := func(next map[string][]string) bool {
		for n, name := range ring {
			if !slices.Contains(next[name], ring[(n+1)%len(ring)]) {
				return false
			}
		}
		return len(ring) > 0
	}
	if !slices.ContainsFunc(webs, is) {
		t.Errorf("%q is no cycle of %v", ring, l)
	}
}

// goText: a package as a program's text, file by file.
func goText(p api.Package) map[string]string {
	texts := map[string]string{}
	for _, f := range p.Files {
		text := strings.Builder{}
		text.WriteString("package p\n")
		sum := func(uses []string) string {
			all := []string{"0"}
			for _, name := range uses {
				if name >= "f" { // functions are f, g, h
					name += "()"
				}
				all = append(all, name)
			}
			return strings.Join(all, " + ")
		}
		for _, v := range f.Vars {
			fmt.Fprintf(&text, "var %s int = %s\n", v.Name, sum(v.Uses))
		}
		for _, v := range f.Funcs {
			fmt.Fprintf(&text, "func %s() int { return %s }\n", v.Name, sum(v.Uses))
		}
		texts[f.Name] = text.String()
	}
	return texts
}

// goOrder: in which order Go itself makes the variables; false, if it finds a cycle.
func goOrder(t *testing.T, p api.Package) ([]string, bool) {
	t.Helper()
	fset := token.NewFileSet()
	var files []*ast.File
	texts := goText(p)
	for _, name := range slices.Sorted(maps.Keys(texts)) {
		f, err := parser.ParseFile(fset, name, texts[name], 0)
		if err != nil {
			t.Fatal(err, texts)
		}
		files = append(files, f)
	}
	info := types.Info{}
	right := true
	config := types.Config{Error: func(err error) {
		right = false
		if !strings.Contains(err.Error(), "cycle") && !strings.Contains(err.Error(), "refers to") {
			t.Fatal(err, texts)
		}
	}}
	config.Check("p", fset, files, &info)
	var names []string
	for _, i := range info.InitOrder {
		names = append(names, i.Lhs[0].Name())
	}
	return names, right
}

// The model is one of Go's own start.
func TestAsGo(t *testing.T) {
	r := rand.New(rand.NewSource(16))
	right := 0
	for range 3000 {
		p := api.Package{Path: "p", Files: []api.File{{Name: "b"}, {Name: "c"}, {Name: "a"}}}
		names := []string{"a", "b", "c", "d", "e", "f", "g", "h"}
		r.Shuffle(len(names), func(i, j int) { names[i], names[j] = names[j], names[i] })
		for n, name := range names {
			var uses []string
			for m, other := range names {
				if r.Intn(3) == 0 && (m > n || name >= "f" && other >= "f" || r.Intn(20) == 0) {
					uses = append(uses, other)
				}
			}
			f := &p.Files[r.Intn(3)]
			if name >= "f" {
				f.Funcs = append(f.Funcs, api.Func{Name: name, Uses: uses})
			} else {
				f.Vars = append(f.Vars, api.Var{Name: name, Uses: uses})
			}
		}
		want, ok := goOrder(t, p)
		got, e, ring := start.Vars(p)
		if ok != (e == api.OK) || ok && !slices.Equal(got, want) || !ok && (e != api.ErrCycle || len(ring) == 0) {
			t.Fatalf("Vars: %q, %d, %q; Go: %q, %v; %v", got, e, ring, want, ok, goText(p))
		}
		if ok {
			right++
		}
	}
	if right < 500 || right > 2900 {
		t.Error(right)
	}
}
