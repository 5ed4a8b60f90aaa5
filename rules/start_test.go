package rules

import (
	"go/ast"
	"slices"
	"strings"
	"testing"

	"cubit/api"
	"cubit/base"
	"cubit/house"
	"cubit/nature"
	"cubit/prefix"
	"cubit/si"
	"cubit/start"
	"cubit/temps"
	"cubit/trad"
)

// made: the variables of the start, as the chapters' tables have them: of each package, line by line, a file, a variable, and on which others it leans.
func made() map[string]string {
	return map[string]string{
		"prefix": `
			big.go quetta ronna kilo
			big.go ronna yotta kilo
			big.go yotta zetta kilo
			big.go zetta exa kilo
			big.go exa peta kilo
			big.go peta tera kilo
			big.go tera giga kilo
			big.go giga mega kilo
			big.go mega kilo
			big.go kilo hecto deca
			big.go hecto deca
			big.go deca
			small.go deci deca
			small.go centi hecto
			small.go milli kilo
			small.go micro mega
			small.go nano giga
			small.go pico tera
			small.go femto peta
			small.go atto exa
			small.go zepto zetta
			small.go yocto yotta
			small.go ronto ronna
			small.go quecto quetta
			two.go yobi zebi kibi
			two.go zebi exbi kibi
			two.go exbi pebi kibi
			two.go pebi tebi kibi
			two.go tebi gibi kibi
			two.go gibi mebi kibi
			two.go mebi kibi
			two.go kibi`,
		"base": `
			base.go bit
			base.go candela metre gram second
			base.go mole
			base.go kelvin metre gram second
			base.go ampere second
			base.go gram metre second
			base.go second
			base.go metre second`,
		"si": `
			electric.go all force energy power electric times rays plane light along
			electric.go electric power
			light.go light plane
			light.go rays energy times
			mechanic.go force
			mechanic.go energy force
			mechanic.go power energy
			mechanic.go times
			mechanic.go plane
			mechanic.go along force`,
		"trad": `
			long.go fathom foot
			long.go foot inch
			long.go hand inch
			long.go inch
			long.go knot nautical
			long.go mile yard
			long.go nautical
			long.go yard foot
			more.go acre foot
			more.go atmosphere
			more.go calorie
			more.go gallon inch
			more.go grain pound
			more.go horsepower foot poundforce
			more.go ounce pound
			more.go pint gallon
			more.go pound
			more.go poundforce pound
			more.go psi inch poundforce
			more.go stone pound
			more.go ton pound
			more.go torr atmosphere`,
		"temps": `
			points.go points celsius
			scales.go fahrenheit rankine celsius
			scales.go rankine
			scales.go celsius`,
		"nature": `
			nature.go faraday charge avogadro
			nature.go gas boltzmann avogadro
			nature.go josephson charge planck
			nature.go klitzing planck charge
			nature.go avogadro
			nature.go boltzmann
			nature.go charge
			nature.go electron
			nature.go gravitation
			nature.go gravity
			nature.go light
			nature.go planck
			nature.go proton`,
		"house": `
			house.go board parts aliases
			house.go parts
			plan.go aliases
			plan.go plan`,
	}
}

// variable: which one a function makes, by its name; Made of package si makes none.
func variable(name string) (string, bool) {
	name, ok := strings.CutSuffix(name, "Made")
	return name, ok && name != ""
}

// makers: the functions of a package that make variables (their names end with Made), in the order of the text, file by file, as lines of the table above.
func makers(all []source, folder string) []string {
	var lines []string
	for _, s := range all {
		if s.folder != folder {
			continue
		}
		for _, d := range s.file.Decls {
			f, ok := d.(*ast.FuncDecl)
			if !ok {
				continue
			}
			if name, ok := variable(f.Name.Name); ok {
				file := s.path[strings.LastIndex(s.path, "/")+1:]
				lines = append(lines, strings.Join(append([]string{file, name}, calledMakers(f)...), " "))
			}
		}
	}
	return lines
}

// calledMakers: those that a function calls, each once.
func calledMakers(f *ast.FuncDecl) []string {
	var l []string
	ast.Inspect(f.Body, func(n ast.Node) bool {
		call, ok := n.(*ast.CallExpr)
		if !ok {
			return true
		}
		if id, ok := call.Fun.(*ast.Ident); ok {
			if name, ok := variable(id.Name); ok && !slices.Contains(l, name) {
				l = append(l, name)
			}
		}
		return true
	})
	return l
}

// Rule 9: each variable is made by a function without arguments, in its file, which calls those that make what it leans on, and no others.
func TestMade(t *testing.T) {
	all := sources(t)
	for folder, table := range made() {
		want := rows(table)
		got := makers(all, folder)
		for i := range max(len(got), len(want)) {
			if i >= len(got) || i >= len(want) || !sameMaker(strings.Fields(got[i]), want[i]) {
				t.Errorf("package %s makes %q, not %q", folder, got, want)
				break
			}
		}
	}
}

// rows: the lines of a table, word by word.
func rows(table string) [][]string {
	var l [][]string
	for line := range strings.Lines(strings.TrimSpace(table)) {
		l = append(l, strings.Fields(line))
	}
	return l
}

// sameMaker: two lines, whatever the order in which a variable calls the others.
func sameMaker(x, y []string) bool {
	slices.Sort(x[2:])
	slices.Sort(y[2:])
	return slices.Equal(x, y)
}

// Rule 9: what is made so is made without arguments, of whole numbers, and arrays and structs of these.
func TestMadeOfNumbers(t *testing.T) {
	all := sources(t)
	for _, s := range all {
		if _, ok := made()[s.folder]; !ok {
			continue
		}
		types := typesOf(all, s.folder)
		for _, d := range s.file.Decls {
			f, ok := d.(*ast.FuncDecl)
			if !ok {
				continue
			}
			if _, ok := variable(f.Name.Name); !ok {
				continue
			}
			if f.Recv != nil || f.Type.Params.NumFields() > 0 {
				t.Errorf("%s: %s takes something", s.path, f.Name.Name)
			}
			if r := f.Type.Results; r.NumFields() != 1 || !ofNumbers(r.List[0].Type, types) {
				t.Errorf("%s: %s makes something else", s.path, f.Name.Name)
			}
		}
	}
}

// typesOf: a package's own types by their names.
func typesOf(all []source, folder string) map[string]ast.Expr {
	types := map[string]ast.Expr{}
	for _, s := range all {
		if s.folder != folder {
			continue
		}
		for _, d := range s.file.Decls {
			if g, ok := d.(*ast.GenDecl); ok {
				for _, spec := range g.Specs {
					if x, ok := spec.(*ast.TypeSpec); ok {
						types[x.Name.Name] = x.Type
					}
				}
			}
		}
	}
	return types
}

func ofNumbers(e ast.Expr, types map[string]ast.Expr) bool {
	switch x := e.(type) {
	case *ast.Ident:
		if own, ok := types[x.Name]; ok {
			return ofNumbers(own, types)
		}
		return slices.Contains([]string{"int", "int64", "rune"}, x.Name)
	case *ast.SelectorExpr:
		of, ok := x.X.(*ast.Ident)
		return ok && of.Name == "api" && x.Sel.Name == "Dim"
	case *ast.ArrayType:
		return x.Len != nil && ofNumbers(x.Elt, types)
	case *ast.StructType:
		for _, f := range x.Fields.List {
			if !ofNumbers(f.Type, types) {
				return false
			}
		}
		return true
	}
	return false
}

// ordered: the variables of a table in the order of the start: again and again the first one that leans on none that is missing.
func ordered(t *testing.T, table string) []string {
	t.Helper()
	var order []string
	all := rows(table)
	for range all {
		n := slices.IndexFunc(all, func(r []string) bool {
			missing := func(name string) bool { return !slices.Contains(order, name) }
			return missing(r[1]) && !slices.ContainsFunc(r[2:], missing)
		})
		if n < 0 {
			t.Fatal("nothing may come behind", order)
		}
		order = append(order, all[n][1])
	}
	return order
}

// grouped: the units of package si, by the variable that makes them.
func grouped() map[string]string {
	return map[string]string{
		"all":      "",
		"electric": "coulomb volt farad ohm siemens weber tesla henry",
		"light":    "lumen lux",
		"rays":     "becquerel gray sievert katal",
		"force":    "newton pascal",
		"energy":   "joule",
		"power":    "watt",
		"times":    "hertz",
		"plane":    "radian steradian",
		"along":    "minute hour day litre tonne bar hectare byte",
	}
}

func unitNames(l []api.Unit) []string {
	var names []string
	for _, u := range l {
		names = append(names, u.Name)
	}
	return names
}

// P2: what each package tells stands in the order of the start.
func TestOrder(t *testing.T) {
	check := func(folder string, got, want []string) {
		if len(want) == 0 || !slices.Equal(got, want) {
			t.Errorf("package %s tells %q, not %q", folder, got, want)
		}
	}
	var prefixes, derived []string
	for _, p := range prefix.All() {
		prefixes = append(prefixes, p.Name)
	}
	for _, v := range ordered(t, made()["si"]) {
		derived = append(derived, strings.Fields(grouped()[v])...)
	}
	check("prefix", prefixes, ordered(t, made()["prefix"]))
	check("base", unitNames(base.Units()), ordered(t, made()["base"]))
	check("si", unitNames(si.Units()), derived)
	check("si", ordered(t, made()["si"]), strings.Fields("force energy power electric times rays plane light along all"))
	check("trad", unitNames(trad.Units()), ordered(t, made()["trad"]))
	check("temps", ordered(t, made()["temps"]), strings.Fields("rankine celsius points fahrenheit"))
	scales := slices.DeleteFunc(ordered(t, made()["temps"]), func(v string) bool { return v == "points" })
	check("temps", unitNames(temps.Units()), scales)
	var constants []string
	for _, c := range nature.All() {
		constants = append(constants, c.Name)
	}
	check("nature", constants, ordered(t, made()["nature"]))
}

// P16.4, P2: the house's own description is what the chapters' tables say, and what the program's text is.
func TestPlan(t *testing.T) {
	all := sources(t)
	plan := house.Plan()
	if len(plan) != len(standing()) {
		t.Fatal(len(plan))
	}
	for n, p := range plan {
		folder := strings.TrimPrefix(p.Path, "cubit/")
		var imports []string
		for _, path := range p.Imports {
			imports = append(imports, strings.TrimPrefix(path, "cubit/"))
		}
		if folder != standing()[n] || !slices.Equal(imports, importsOf(all, folder)) {
			t.Errorf("package %d is %s, and imports %q", n, p.Path, imports)
		}
		var lines [][]string
		for _, f := range p.Files {
			for _, v := range f.Vars {
				lines = append(lines, append([]string{f.Name, v.Name}, v.Uses...))
			}
		}
		if want := rows(made()[folder]); !slices.EqualFunc(lines, want, slices.Equal[[]string]) {
			t.Errorf("package %s has %q, not %q", folder, lines, want)
		}
	}
}

// P2: the model of the start makes them in the order that is found here by other means.
func TestStart(t *testing.T) {
	steps, e, _ := start.Order(house.Plan())
	if e != api.OK {
		t.Fatal(e)
	}
	for folder, table := range made() {
		var got []string
		for _, s := range steps {
			if s.Path == "cubit/"+folder {
				got = append(got, s.What)
			}
		}
		if want := ordered(t, table); !slices.Equal(got, want) {
			t.Errorf("package %s: %q, not %q", folder, got, want)
		}
	}
}
