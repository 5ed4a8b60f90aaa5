package start_test

import (
	"math"
	"slices"
	"strconv"
	"strings"
	"sync"
	"testing"
	"time"

	"cubit/api"
	"cubit/start"
)

// The chapter's examples.
func TestExamples(t *testing.T) {
	l := program(t, `
		package a
		file f 0
		var x y
		var y
		var z x`)
	checkVars(t, l[0], []string{"y", "x", "z"}, api.OK)
	checkOrder(t, l, steps("a y, a x, a z"), api.OK)
	l = program(t, `
		package a
		file f 0
		var a f
		var b
		func f b`)
	checkVars(t, l[0], []string{"b", "a"}, api.OK)
	l = program(t, `
		package a
		file f 0
		var a f
		func f a`)
	checkVars(t, l[0], nil, api.ErrCycle, "a", "f")
	checkOrder(t, l, nil, api.ErrCycle, "a", "f")
	checkPackages(t, l, []string{"a"}, api.OK)
	l = program(t, `
		package m/b m/c
		package m/a
		package m/c`)
	checkPackages(t, l, []string{"m/a", "m/c", "m/b"}, api.OK)
	checkOrder(t, l, nil, api.OK)
	l = program(t, `
		package m/a m/b
		package m/b m/a`)
	checkPackages(t, l, nil, api.ErrCycle, "m/a", "m/b")
	checkOrder(t, l, nil, api.ErrCycle, "m/a", "m/b")
	l = program(t, `
		package p
		file f 0
		var a g
		var b
		func g b a`)
	checkVars(t, l[0], nil, api.ErrCycle, "a", "g")
}

// P15.1: a start of several packages, with files that are not sorted, and functions init.
func TestOrder(t *testing.T) {
	l := program(t, `
		package z
		file b 2
		var late early
		var early
		file a 1
		var first late
		var second
		package m
		file f 3
		var n helper
		func helper
		package z2`)
	checkOrder(t, l, steps("m n, m init 1, m init 2, m init 3, z second, z early, z late, z first, z init 1, z init 2, z init 3"), api.OK)
	checkPackages(t, l, []string{"m", "z", "z2"}, api.OK)
	l[1].Imports, l[1].Files[0].Vars[0].Uses = []string{"z"}, []string{"helper", "z.late"}
	checkOrder(t, l, steps("z second, z early, z late, z first, z init 1, z init 2, z init 3, m n, m init 1, m init 2, m init 3"), api.OK)
	checkPackages(t, l, []string{"z", "m", "z2"}, api.OK)
	checkVars(t, l[1], []string{"n"}, api.OK)
	checkOrder(t, nil, nil, api.OK)
	checkPackages(t, nil, nil, api.OK)
	checkVars(t, api.Package{Path: "p"}, nil, api.OK)
}

// The first one is looked for again from the beginning each time.
func TestFromTheBeginning(t *testing.T) {
	l := program(t, `
		package a
		file f 0
		var a d
		var b
		var c
		var d c
		var e`)
	checkVars(t, l[0], strings.Fields("b c d a e"), api.OK)
	l = program(t, `
		package a d
		package b
		package c
		package d c
		package e`)
	checkPackages(t, l, strings.Fields("b c d a e"), api.OK)
}

// Functions may use one another, and themselves, as long as no variable is among them.
func TestFunctionsMayTurn(t *testing.T) {
	l := program(t, `
		package p
		file f 0
		var a f
		var b
		func f g f
		func g f b`)
	checkVars(t, l[0], []string{"b", "a"}, api.OK)
	l = program(t, `
		package p
		file f 0
		var b
		func f g f
		func g f`)
	checkVars(t, l[0], []string{"b"}, api.OK)
}

// Fault 1: at the limit, beyond it, and where counts leave their type.
func TestSize(t *testing.T) {
	uses := func(n int) []string { return slices.Repeat([]string{"b"}, n) }
	whole := api.Package{Path: "p", Imports: []string{"q"}, Files: []api.File{{
		Name: "f", Inits: 400,
		Vars:  []api.Var{{Name: "a", Uses: uses(300)}, {Name: "b"}},
		Funcs: []api.Func{{Name: "g", Uses: uses(316)}},
	}}}
	// 2 packages, 1 import, 1 file, 2 variables, 1 function, 616 names used, 400 functions init: 1023.
	for more := range 3 {
		l := copied([]api.Package{whole, {Path: "q"}})
		l[0].Files[0].Inits += more
		if _, e, blame := start.Order(l); (e == api.OK) != (more <= 1) || more > 1 && e != api.ErrSize || len(blame) > 0 {
			t.Errorf("%d more: %d, %q", more, e, blame)
		}
		l[0].Imports = nil
		l[0].Files[0].Inits += 2 // by itself it has one package and one import less
		if _, e, _ := start.Vars(l[0]); (e == api.OK) != (more <= 1) {
			t.Errorf("%d more, alone: %d", more, e)
		}
	}
	for _, n := range []int{-1, math.MinInt, math.MaxInt, math.MaxInt - 1023, 1023} {
		checkWrong(t, api.Package{Path: "p", Files: []api.File{{Name: "f", Inits: n}}}, api.ErrSize)
		checkWrong(t, api.Package{Path: "?", Files: []api.File{{Name: "f", Inits: n}, {Name: "f", Inits: 1}}}, api.ErrSize)
	}
	checkOrder(t, []api.Package{{Path: "p", Files: []api.File{{Name: "f", Inits: -1}, {Name: "g", Inits: 3}}}}, nil, api.ErrSize)
	two := api.File{Name: "f", Inits: math.MaxInt}
	checkWrong(t, api.Package{Path: "p", Files: []api.File{two, two}}, api.ErrSize)
	checkOrder(t, make([]api.Package, 1025), nil, api.ErrSize)
	checkOrder(t, make([]api.Package, 1024), nil, api.ErrForm, "")
	for n := range 2 {
		many := make([]api.Package, 1024+n)
		for i := range many {
			many[i].Path = "p" + strconv.Itoa(i)
		}
		if l, e, _ := start.Packages(many); (e == api.OK) != (n == 0) || n == 0 && len(l) != 1024 {
			t.Errorf("%d packages: %d", len(many), e)
		}
	}
}

// Fault 2, at its edges.
func TestForm(t *testing.T) {
	file := func(name string) api.Package { return api.Package{Path: "p", Files: []api.File{{Name: name}}} }
	variable := func(name string) api.Package {
		return api.Package{Path: "p", Files: []api.File{{Name: "f", Vars: []api.Var{{Name: name}}}}}
	}
	function := func(name string) api.Package {
		return api.Package{Path: "p", Files: []api.File{{Name: "f", Funcs: []api.Func{{Name: name}}}}}
	}
	long := strings.Repeat("x", 41)
	for _, path := range []string{"", long, "A", "a.b", "a b", "\u00e4", "a\x00", "a`", "a{", "a:", "a."} {
		checkWrong(t, api.Package{Path: path}, api.ErrForm, path)
		checkWrong(t, api.Package{Path: "p", Imports: []string{path}}, api.ErrForm, path)
	}
	for _, path := range []string{"a", "z", "0", "9", "_", "-", "/", "//", "m/a-b_c/9", long[1:]} {
		checkPackages(t, []api.Package{{Path: path}}, []string{path}, api.OK)
		checkVars(t, api.Package{Path: "p", Imports: []string{path}}, nil, api.OK)
	}
	for _, name := range []string{"", long} {
		checkWrong(t, file(name), api.ErrForm, name)
	}
	for _, name := range []string{"init", " ", "\xff\x00.", long[1:]} {
		checkVars(t, file(name), nil, api.OK)
	}
	for _, name := range []string{"", long, "init", "1", "9a", "a-b", "a.b", "a/b", "\u00e4", "a\u00df", "a ", "@", "[", "`", "{", "a:"} {
		checkWrong(t, variable(name), api.ErrForm, name)
		checkWrong(t, function(name), api.ErrForm, name)
	}
	for _, name := range []string{"_", "a", "z", "A", "Z", "a9", "_0", "Init", "init1", "main", long[1:]} {
		checkVars(t, variable(name), []string{name}, api.OK)
		checkVars(t, function(name), nil, api.OK)
	}
}

// Fault 3: of each kind; the second one is to blame, where it stands.
func TestTwice(t *testing.T) {
	checkOrder(t, program(t, "package a\npackage b\npackage a"), nil, api.ErrTwice, "a")
	checkWrong(t, api.Package{Path: "a", Imports: []string{"b", "c", "c", "b"}}, api.ErrTwice, "c")
	checkWrong(t, api.Package{Path: "a", Files: []api.File{{Name: "f"}, {Name: "g"}, {Name: "g"}, {Name: "f"}}}, api.ErrTwice, "g")
	for _, text := range []string{
		"package a\nfile f 0\nvar x\nvar y\nvar y\nvar x",
		"package a\nfile f 0\nvar x\nvar y\nfile g 0\nvar y\nfile h 0\nvar x",
		"package a\nfile f 0\nvar x\nvar y\nfunc y\nfunc x",
		"package a\nfile f 0\nvar x\nfunc y\nfile g 0\nvar y\nfunc x",
		"package a\nfile f 0\nfunc x\nfunc y\nfile g 0\nfunc y\nfunc x",
	} {
		checkWrong(t, program(t, text)[0], api.ErrTwice, "y")
	}
	// The same texts elsewhere are no two of one kind.
	l := program(t, `
		package a b
		file a 0
		var a
		func f a a b.a
		package b
		file a 0
		var a
		var b`)
	checkOrder(t, l, steps("b a, b b, a a"), api.OK)
	// Whatever it is, the first place counts.
	checkOrder(t, program(t, "package a\nfile f 0\nvar x\nvar x\npackage a"), nil, api.ErrTwice, "x")
	checkOrder(t, program(t, "package a\npackage a\nfile f 0\nvar x\nvar x"), nil, api.ErrTwice, "a")
	checkOrder(t, program(t, "package a\nfile f 0\nvar x\nfile f 0\nvar x"), nil, api.ErrTwice, "f")
}

// Fault 4.
func TestMissing(t *testing.T) {
	checkOrder(t, program(t, "package a b\npackage c"), nil, api.ErrImport, "b")
	checkPackages(t, program(t, "package a b\npackage c"), nil, api.ErrImport, "b")
	checkVars(t, api.Package{Path: "a", Imports: []string{"b"}}, nil, api.OK)
	within := func(use string) []api.Package {
		return program(t, "package a b\nfile f 0\nvar x "+use+"\npackage b\nfile f 0\nvar v\nfunc g\npackage c\nfile f 0\nvar w")
	}
	for _, use := range []string{"b.v", "b.g", "x2"} {
		l := within(use)
		l[0].Files[0].Vars = append(l[0].Files[0].Vars, api.Var{Name: "x2"})
		if _, e, blame := start.Order(l); e != api.OK {
			t.Error(use, e, blame)
		}
	}
	for _, use := range []string{"b.w", "b.a", "c.w", "a.x", "d.v", "b.", ".v", ".", "b.v.v", "b..v", "b.f", "b. v"} {
		l := within("x")
		l[0].Files[0].Vars[0].Uses[0] = use
		checkOrder(t, l, nil, api.ErrImport, use)
		checkPackages(t, l, nil, api.ErrImport, use)
	}
	for _, use := range []string{"v", "g", "f", "b", "", "init", "X", "x ", "b/v"} {
		l := within("x")
		l[0].Files[0].Vars[0].Uses[0] = use
		checkOrder(t, l, nil, api.ErrNone, use)
		checkPackages(t, l, nil, api.ErrNone, use)
		checkVars(t, l[0], nil, api.ErrNone, use)
	}
	// By itself nobody asks what is there, but the path must be imported.
	for use, e := range map[string]api.Errno{"b.w": api.OK, "b.": api.OK, "b.?": api.OK, "c.w": api.ErrImport, "b.v.v": api.ErrImport, ".v": api.ErrImport, "a.x": api.ErrImport} {
		l := within("x")
		l[0].Files[0].Vars[0].Uses[0] = use
		if e == api.OK {
			checkVars(t, l[0], []string{"x"}, e)
		} else {
			checkVars(t, l[0], nil, e, use)
		}
	}
	// The first place counts: imports stand ahead of names used, variables ahead of functions.
	checkOrder(t, program(t, "package a\nfile f 0\nvar x y\npackage b c"), nil, api.ErrNone, "y")
	checkOrder(t, program(t, "package b c\npackage a\nfile f 0\nvar x y"), nil, api.ErrImport, "c")
	l := program(t, "package a\nfile f 0\nfunc g c.x\nvar x y")
	checkOrder(t, l, nil, api.ErrNone, "y")
	checkVars(t, l[0], nil, api.ErrNone, "y")
}

// The faults' order: each has what all behind it would tell, too.
func TestFirstFault(t *testing.T) {
	text := `
		package a a
		file f 0
		var x x zz
		package a
		file f 0
		var init
		file g -1`
	l := program(t, text)
	checkOrder(t, l, nil, api.ErrSize)
	l[1].Files[1].Inits = 0
	checkOrder(t, l, nil, api.ErrForm, "init")
	l[1].Files[0].Vars[0].Name = "y"
	checkOrder(t, l, nil, api.ErrTwice, "a")
	l[1].Path = "b"
	checkOrder(t, l, nil, api.ErrNone, "zz")
	l[0].Files[0].Vars[0].Uses = []string{"x"}
	checkOrder(t, l, nil, api.ErrCycle, "a")
	checkPackages(t, l, nil, api.ErrCycle, "a")
	l[0].Imports = nil
	checkOrder(t, l, nil, api.ErrCycle, "x")
	checkPackages(t, l, []string{"a", "b"}, api.OK)
	l[0].Files[0].Vars[0].Uses = nil
	checkOrder(t, l, steps("a x, b y"), api.OK)
}

// Fault 5: of imports the shortest one, told from its least path on.
func TestImportRing(t *testing.T) {
	l := program(t, `
		package a b
		package b c
		package c a
		package z y
		package y z
		package x w
		package w x`)
	checkOrder(t, l, nil, api.ErrCycle, "w", "x")
	l = program(t, `
		package d b c
		package b d
		package c d
		package a d`)
	checkOrder(t, l, nil, api.ErrCycle, "b", "d")
	// From the least path on the least next one from which it is short enough.
	l = program(t, `
		package a b e
		package b c
		package c d
		package d a
		package e f
		package f a`)
	checkOrder(t, l, nil, api.ErrCycle, "a", "e", "f")
	l = program(t, `
		package a d c
		package c b
		package d b
		package b a`)
	checkOrder(t, l, nil, api.ErrCycle, "a", "c", "b")
	// Byte by byte: a / comes ahead of letters, - ahead of /.
	l = program(t, `
		package a1 a1
		package a/1 a/1
		package a-1 a-1`)
	checkOrder(t, l, nil, api.ErrCycle, "a-1")
}

// Fault 5: of variables: the first package as they start, and from a variable on.
func TestVariableRing(t *testing.T) {
	l := program(t, `
		package a c
		file f 0
		var x x
		package c
		file f 0
		var r s
		var s r`)
	checkOrder(t, l, nil, api.ErrCycle, "r", "s")
	checkPackages(t, l, []string{"c", "a"}, api.OK)
	checkVars(t, l[0], nil, api.ErrCycle, "x")
	// A function may come first by its name, but does not begin the telling.
	l = program(t, `
		package p
		file f 0
		var z a
		func a z`)
	checkVars(t, l[0], nil, api.ErrCycle, "z", "a")
	// Of one cycle, the telling from its first variable.
	l = program(t, `
		package p
		file f 0
		var z f
		var m z
		func f m`)
	checkVars(t, l[0], nil, api.ErrCycle, "m", "z", "f")
	// A cycle of functions alone does not count, however short.
	l = program(t, `
		package p
		file f 0
		var x f
		func f f g
		func g x`)
	checkVars(t, l[0], nil, api.ErrCycle, "x", "f", "g")
	// Capital letters come first.
	l = program(t, `
		package p
		file f 0
		var b c C
		var c b
		var C b`)
	checkVars(t, l[0], nil, api.ErrCycle, "C", "b")
}

// Rule 1: at the limits it ends soon.
func TestGreat(t *testing.T) {
	name := func(n int) string { return "v" + strconv.Itoa(n) }
	began := time.Now()
	chain := api.Package{Path: "p", Files: []api.File{{Name: "f"}}}
	for n := range 511 {
		v := api.Var{Name: name(n)}
		if n < 510 {
			v.Uses = []string{name(n + 1)}
		}
		chain.Files[0].Vars = append(chain.Files[0].Vars, v)
	}
	if l, e, _ := start.Vars(chain); e != api.OK || len(l) != 511 || l[0] != name(510) {
		t.Error(len(l), e)
	}
	chain.Files[0].Vars[510].Uses = []string{name(0)}
	if _, e, ring := start.Vars(chain); e != api.ErrCycle || len(ring) != 511 {
		t.Error(len(ring), e)
	}
	fan := api.Package{Path: "p", Files: []api.File{{Name: "f"}, {Name: "g", Funcs: []api.Func{{Name: "all"}}}}}
	for n := range 250 {
		fan.Files[0].Vars = append(fan.Files[0].Vars, api.Var{Name: name(n), Uses: []string{"all"}})
		fan.Files[1].Vars = append(fan.Files[1].Vars, api.Var{Name: name(n + 250)})
		fan.Files[1].Funcs[0].Uses = append(fan.Files[1].Funcs[0].Uses, name(n+250))
	}
	if l, e, _ := start.Vars(fan); e != api.OK || len(l) != 500 || l[0] != name(250) || l[250] != name(0) {
		t.Error(len(l), e)
	}
	if took := time.Since(began); took > 20*time.Second {
		t.Error("too slow:", took)
	}
}

// Rules 5 and 6: what is answered is new, whoever asks, and how many at a time.
func TestAnswersAreNew(t *testing.T) {
	l := program(t, `
		package b c
		file f 1
		var x y
		var y
		package c`)
	again := func() {
		want := steps("b y, b x, b init 1")
		checkOrder(t, l, want, api.OK)
		checkPackages(t, l, []string{"c", "b"}, api.OK)
		checkVars(t, l[0], []string{"y", "x"}, api.OK)
	}
	again()
	order, _, _ := start.Order(l)
	paths, _, _ := start.Packages(l)
	names, _, _ := start.Vars(l[0])
	order[0], paths[0], names[0] = api.Step{}, "?", "?"
	again()
	ring := program(t, "package a b\npackage b a")
	_, _, one := start.Order(ring)
	one[0] = "?"
	checkOrder(t, ring, nil, api.ErrCycle, "a", "b")
	var all sync.WaitGroup
	for range 8 {
		all.Go(again)
	}
	all.Wait()
}
