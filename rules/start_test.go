package rules

import (
	"go/ast"
	"slices"
	"strings"
	"testing"
)

// made: the variables of the start, as the chapters' tables have them: of each package, line by line, a file, a variable, and on which others it leans.
func made() map[string]string {
	return map[string]string{
		"prefix": `
			big.go quetta ronna kilo
			big.go ronna yotta kilo
			big.go yotta zetta kilo
			big.go zetta exa kilo
			big.go exa peta kilo
			big.go peta tera kilo
			big.go tera giga kilo
			big.go giga mega kilo
			big.go mega kilo
			big.go kilo hecto deca
			big.go hecto deca
			big.go deca
			small.go deci deca
			small.go centi hecto
			small.go milli kilo
			small.go micro mega
			small.go nano giga
			small.go pico tera
			small.go femto peta
			small.go atto exa
			small.go zepto zetta
			small.go yocto yotta
			small.go ronto ronna
			small.go quecto quetta
			two.go yobi zebi kibi
			two.go zebi exbi kibi
			two.go exbi pebi kibi
			two.go pebi tebi kibi
			two.go tebi gibi kibi
			two.go gibi mebi kibi
			two.go mebi kibi
			two.go kibi`,
	}
}

// makers: the functions of a package that make variables (their names end with Made), in the order of the text, file by file, as lines of the table above.
func makers(all []source, folder string) []string {
	var lines []string
	for _, s := range all {
		if s.folder != folder {
			continue
		}
		for _, d := range s.file.Decls {
			f, ok := d.(*ast.FuncDecl)
			if !ok {
				continue
			}
			if name, ok := strings.CutSuffix(f.Name.Name, "Made"); ok {
				file := s.path[strings.LastIndex(s.path, "/")+1:]
				lines = append(lines, strings.Join(append([]string{file, name}, calledMakers(f)...), " "))
			}
		}
	}
	return lines
}

// calledMakers: those that a function calls, each once.
func calledMakers(f *ast.FuncDecl) []string {
	var l []string
	ast.Inspect(f.Body, func(n ast.Node) bool {
		call, ok := n.(*ast.CallExpr)
		if !ok {
			return true
		}
		if id, ok := call.Fun.(*ast.Ident); ok {
			if name, ok := strings.CutSuffix(id.Name, "Made"); ok && !slices.Contains(l, name) {
				l = append(l, name)
			}
		}
		return true
	})
	return l
}

// Rule 9: each variable is made by a function without arguments, in its file, which calls those that make what it leans on, and no others.
func TestMade(t *testing.T) {
	all := sources(t)
	for folder, table := range made() {
		var want []string
		for line := range strings.Lines(strings.TrimSpace(table)) {
			want = append(want, strings.Join(strings.Fields(line), " "))
		}
		got := makers(all, folder)
		for i := range max(len(got), len(want)) {
			if i >= len(got) || i >= len(want) || !sameMaker(got[i], want[i]) {
				t.Errorf("package %s makes %q, not %q", folder, got, want)
				break
			}
		}
	}
}

// sameMaker: two lines, whatever the order in which a variable calls the others.
func sameMaker(a, b string) bool {
	x, y := strings.Fields(a), strings.Fields(b)
	slices.Sort(x[2:])
	slices.Sort(y[2:])
	return slices.Equal(x, y)
}

// Rule 9: what is made so is made without arguments.
func TestMadeOfNothing(t *testing.T) {
	for _, s := range sources(t) {
		if _, ok := made()[s.folder]; !ok {
			continue
		}
		for _, d := range s.file.Decls {
			if f, ok := d.(*ast.FuncDecl); ok && strings.HasSuffix(f.Name.Name, "Made") && (f.Recv != nil || f.Type.Params.NumFields() > 0) {
				t.Errorf("%s: %s takes something", s.path, f.Name.Name)
			}
		}
	}
}
