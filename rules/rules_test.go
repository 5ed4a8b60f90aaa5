// Package rules holds no program: its tests look at the program's text, whether it keeps to the rules of its language and of its map.
package rules

import (
	"bytes"
	"go/ast"
	"go/format"
	"go/parser"
	"go/token"
	"io/fs"
	"os"
	"path/filepath"
	"slices"
	"strconv"
	"strings"
	"testing"
)

// library: what may be imported of it.
func library() []string {
	return strings.Fields("bytes cmp container/heap errors iter maps math math/bits slices sort strconv strings sync sync/atomic unicode unicode/utf8")
}

// layers: the packages in the order of the document's map; each may import those ahead of it.
func layers() []string {
	return strings.Fields("api nat rat flo unc dim names prefix reg base si trad temps nature graph start house decl lex syntax infer exact float spread conv show ledger tally pool book shell")
}

// starting: the imports of the packages of the start, as chapter 16 tells them; they have no others of the project.
func starting() map[string]string {
	return map[string]string{
		"api":    "",
		"nat":    "api",
		"rat":    "api nat",
		"dim":    "api",
		"names":  "api",
		"prefix": "api rat",
		"reg":    "api dim names prefix rat",
		"base":   "api dim rat reg",
		"si":     "api base dim prefix rat reg",
		"nature": "api dim rat reg si",
		"temps":  "api dim rat reg si",
		"trad":   "api base dim rat reg si",
		"graph":  "api rat",
		"start":  "api",
		"house":  "api base dim graph names nature prefix rat reg si start temps trad",
	}
}

// calling: the imports of other layers that are built, as their chapters tell them.
func calling() map[string]string {
	return map[string]string{
		"flo":    "api nat rat",
		"unc":    "api rat",
		"decl":   "api nat rat dim names",
		"lex":    "api rat unc names",
		"syntax": "api rat lex",
		"infer":  "api rat unc dim house syntax",
		"exact":  "api rat dim house syntax infer",
		"float":  "api rat flo dim house syntax infer",
		"spread": "api rat unc dim house syntax infer",
		"conv":   "api rat unc flo dim house syntax infer",
		"show":   "api nat rat flo prefix house",
		"ledger": "api rat unc house conv",
		"tally":  "api nat rat flo",
		"pool":   "api rat house conv ledger",
		"book":   "api rat house ledger",
		"shell":  strings.Join(layers()[:len(layers())-1], " "),
	}
}

// standing: the packages of the start.
func standing() []string {
	return strings.Fields("api nat rat dim names prefix reg base si nature temps trad graph start house")
}

type source struct {
	path, folder string
	text         []byte
	fset         *token.FileSet
	file         *ast.File
}

// sources: the files of the program, without tests.
func sources(t *testing.T) []source {
	t.Helper()
	var all []source
	err := filepath.WalkDir("..", func(path string, d fs.DirEntry, err error) error {
		if err != nil {
			return err
		}
		if d.IsDir() && (d.Name() == "sharedtests" || d.Name() == ".git") {
			return filepath.SkipDir
		}
		if d.IsDir() || !strings.HasSuffix(path, ".go") || strings.HasSuffix(path, "_test.go") {
			return nil
		}
		text, err := os.ReadFile(path)
		if err != nil {
			return err
		}
		fset := token.NewFileSet()
		file, err := parser.ParseFile(fset, path, text, parser.ParseComments)
		all = append(all, source{path, filepath.Base(filepath.Dir(path)), text, fset, file})
		return err
	})
	if err != nil || len(all) < len(layers()) {
		t.Fatal(len(all), err)
	}
	return all
}

func TestImports(t *testing.T) {
	for _, s := range sources(t) {
		for _, i := range s.file.Imports {
			path, _ := strconv.Unquote(i.Path.Value)
			own, of := strings.CutPrefix(path, "cubit/")
			if !of && !slices.Contains(library(), path) {
				t.Errorf("%s imports %s", s.path, path)
			}
			if of && !mayImport(s.folder, own) {
				t.Errorf("%s imports %s, which is not ahead of it", s.path, path)
			}
		}
	}
}

// Rule 9: the packages of the start import just those of the project that chapter 16 tells.
func TestImportsOfTheStart(t *testing.T) {
	all := sources(t)
	for _, folder := range standing() {
		if got := importsOf(all, folder); !slices.Equal(got, strings.Fields(starting()[folder])) {
			t.Errorf("package %s imports %q", folder, got)
		}
	}
}

// importsOf: the project's own packages that one imports, sorted.
func importsOf(all []source, folder string) []string {
	var got []string
	for _, s := range all {
		for _, i := range s.file.Imports {
			path, _ := strconv.Unquote(i.Path.Value)
			if own, of := strings.CutPrefix(path, "cubit/"); of && s.folder == folder {
				got = append(got, own)
			}
		}
	}
	slices.Sort(got)
	return slices.Compact(got)
}

func mayImport(from, to string) bool {
	for _, told := range []map[string]string{starting(), calling()} {
		if list, ok := told[from]; ok {
			return slices.Contains(strings.Fields(list), to)
		}
	}
	at, other := slices.Index(layers(), from), slices.Index(layers(), to)
	return at < 0 || other < at
}

func TestLayout(t *testing.T) {
	for _, s := range sources(t) {
		if told, err := format.Source(s.text); err != nil || !bytes.Equal(told, s.text) {
			t.Errorf("%s is not laid out as gofmt has it", s.path)
		}
		for _, group := range s.file.Comments {
			for _, c := range group.List {
				if strings.HasPrefix(c.Text, "//go:") || strings.HasPrefix(c.Text, "// +build") {
					t.Errorf("%s has the line %s", s.path, c.Text)
				}
			}
		}
	}
}

func TestFunctions(t *testing.T) {
	for _, s := range sources(t) {
		for _, d := range s.file.Decls {
			f, ok := d.(*ast.FuncDecl)
			if !ok {
				continue
			}
			lines := s.fset.Position(f.End()).Line - s.fset.Position(f.Pos()).Line + 1
			if lines > 60 {
				t.Errorf("%s: %s has %d lines", s.path, f.Name.Name, lines)
			}
			if f.Recv == nil && f.Name.Name == "init" {
				t.Errorf("%s has a function init", s.path)
			}
		}
	}
}

// At package level stand constants, errors of errors.New, and tables that are written out: no other call, no map, no function, nothing without a value.
func TestVariables(t *testing.T) {
	for _, s := range sources(t) {
		for _, d := range s.file.Decls {
			g, ok := d.(*ast.GenDecl)
			if !ok || g.Tok != token.VAR {
				continue
			}
			for _, spec := range g.Specs {
				v := spec.(*ast.ValueSpec)
				if len(v.Values) != len(v.Names) {
					t.Errorf("%s: %s has no value", s.path, v.Names[0])
				}
				for _, value := range v.Values {
					ast.Inspect(value, func(n ast.Node) bool {
						switch x := n.(type) {
						case *ast.MapType, *ast.FuncLit, *ast.FuncType:
							t.Errorf("%s: %s is no short table", s.path, v.Names[0])
						case *ast.UnaryExpr:
							if x.Op == token.AND {
								t.Errorf("%s: %s is a pointer", s.path, v.Names[0])
							}
						case *ast.CallExpr:
							if sel, ok := x.Fun.(*ast.SelectorExpr); !ok || sel.Sel.Name != "New" {
								t.Errorf("%s: %s is made by a call", s.path, v.Names[0])
							}
						}
						return true
					})
				}
			}
		}
	}
}

func TestFolders(t *testing.T) {
	folders, err := os.ReadDir("..")
	if err != nil {
		t.Fatal(err)
	}
	for _, f := range folders {
		if n := f.Name(); f.IsDir() && (n == "form" || n == "try" || strings.HasPrefix(n, "cubit")) {
			t.Errorf("a folder is named %s", n)
		}
	}
	for _, l := range layers() {
		if _, err := os.Stat(filepath.Join("..", l, l+".go")); err != nil {
			t.Error(err)
		}
	}
}
