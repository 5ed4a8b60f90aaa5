package house_test

import (
	"fmt"
	"reflect"
	"slices"
	"strings"
	"sync"
	"testing"

	"cubit/api"
	"cubit/base"
	"cubit/graph"
	"cubit/house"
	"cubit/nature"
	"cubit/prefix"
	"cubit/rat"
	"cubit/reg"
	"cubit/si"
	"cubit/start"
	"cubit/temps"
	"cubit/trad"
)

// others: the other words of the own house, and the symbols of their units, as the chapter tells them.
func others() [][2]string {
	return [][2]string{{"meter", "m"}, {"liter", "L"}, {"l", "L"}, {"sec", "s"}, {"hr", "h"}, {"amp", "A"}, {"degC", "\u00b0C"}, {"\u2103", "\u00b0C"}, {"degF", "\u00b0F"}, {"\u2109", "\u00b0F"}, {"degR", "\u00b0R"}}
}

func allUnits() []api.Unit {
	return slices.Concat(base.Units(), si.Units(), temps.Units(), trad.Units())
}

// P16.1, P16.5: what it has, in which order.
func TestOwn(t *testing.T) {
	h := own(t)
	if got := h.Units(); len(got) != 62 || !slices.Equal(got, allUnits()) {
		t.Errorf("Units() = %v", got)
	}
	if got := h.Consts(); len(got) != 13 || !slices.Equal(got, nature.All()) {
		t.Errorf("Consts() = %v", got)
	}
	if got := h.Prefixes(); len(got) != 32 || !slices.Equal(got, prefix.All()) {
		t.Errorf("Prefixes() = %v", got)
	}
	if ills := h.Health(); len(ills) != 0 {
		t.Error(ills)
	}
	for _, u := range allUnits() {
		checkUnit(t, h, u.Name, u, api.OK)
		checkUnit(t, h, u.Symbol, u, api.OK)
	}
	for _, c := range nature.All() {
		checkConst(t, h, c.Name, c, api.OK)
		checkConst(t, h, c.Symbol, c, api.OK)
		checkNoUnit(t, h, api.ErrUnit, c.Name, c.Symbol, "k"+c.Symbol, "kilo"+c.Name)
	}
	for _, o := range others() {
		u, e := h.Unit(o[1])
		if e != api.OK || u.Symbol != o[1] {
			t.Error(o, u, e)
		}
		checkUnit(t, h, o[0], u, api.OK)
		checkConst(t, h, o[0], api.Const{}, api.ErrName)
	}
}

// The chapter's first example, and words like those.
func TestOwnWords(t *testing.T) {
	h := own(t)
	checkUnit(t, h, "km", unit(t, "kilometre km 1000 0 0", "L"), api.OK)
	checkUnit(t, h, "kilometer", unit(t, "kilometre km 1000 0 0", "L"), api.OK)
	checkUnit(t, h, "kmeter", unit(t, "kilometre km 1000 0 0", "L"), api.OK)
	for _, word := range []string{"\u00b5s", "\u03bcs", "us", "usec", "microsec", "microsecond", "\u00b5sec"} {
		checkUnit(t, h, word, unit(t, "microsecond \u03bcs 1/1000000 0 0", "T"), api.OK)
	}
	checkUnit(t, h, "cd", unit(t, "candela cd 1 0 1", "J"), api.OK)
	checkUnit(t, h, "KiB", unit(t, "kibibyte KiB 8192 0 0", "B"), api.OK)
	checkUnit(t, h, "Mibit", api.Unit{}, api.ErrUnit)
	checkUnit(t, h, "kg", unit(t, "kilogram kg 1 0 0", "M"), api.OK)
	checkUnit(t, h, "ml", unit(t, "millilitre mL 1/1000000 0 0", "L^3"), api.OK)
	checkUnit(t, h, "k\u2126", unit(t, "kiloohm k\u03a9 1000 0 0", "L^2 M T^-3 I^-2"), api.OK)
	checkUnit(t, h, "min", unit(t, "minute min 60 0 0", "T"), api.OK)
	checkUnit(t, h, "degC", unit(t, "celsius \u00b0C 1 5463/20 0", "H"), api.OK)
	checkNoUnit(t, h, api.ErrUnit, "kmi", "light", "clight", "kilom", "kmetre", "mdegC", "kdegC", "Kim", "khr", "foo", "Metre", "kilo", "k", "\u00b0")
	checkNoUnit(t, h, api.ErrRune, "2m", "", "m\u00b2", "k m", "\xff", "k\u00b0C")
	checkNoUnit(t, h, api.ErrName, "in")
	checkNoUnit(t, h, api.ErrSize, strings.Repeat("m", 41))
	c, e := h.Const("light")
	if e != api.OK || c.Value != rat.Of(299792458) {
		t.Error(c, e)
	}
	for word, is := range map[string]api.Errno{"m": api.ErrName, "klight": api.ErrName, "Light": api.ErrName, "meter": api.ErrName, "2m": api.ErrRune, "": api.ErrRune, "in": api.ErrName, strings.Repeat("m", 41): api.ErrSize} {
		checkConst(t, h, word, api.Const{}, is)
	}
}

// P16.6.
func TestOwnConvert(t *testing.T) {
	h := own(t)
	for _, x := range []struct{ x, from, to, want string }{
		{"1", "mi", "km", "25146/15625"}, {"20", "degC", "\u00b0F", "68"}, {"1", "KiB", "b", "8192"}, {"212", "\u2109", "\u2103", "100"}, {"-40", "degF", "degC", "-40"}, {"0", "K", "degR", "0"}, {"100", "degC", "K", "7463/20"}, {"3/7", "mi", "mi", "3/7"}, {"90", "min", "hr", "3/2"}, {"1", "horsepower", "kW", "37284993579113511/50000000000000000"},
	} {
		checkConvert(t, h, number(t, x.x), x.from, x.to, number(t, x.want), api.OK)
	}
	one := rat.Of(1)
	checkConvert(t, h, one, "m", "s", api.Rat{}, api.ErrDim)
	checkConvert(t, h, one, "m", "foo", api.Rat{}, api.ErrUnit)
	checkConvert(t, h, one, "2", "foo", api.Rat{}, api.ErrRune)
	checkConvert(t, h, one, "foo", "2", api.Rat{}, api.ErrUnit)
	checkConvert(t, h, one, "m", "in", api.Rat{}, api.ErrName)
	checkConvert(t, h, one, "light", "m", api.Rat{}, api.ErrUnit)
	for _, wrong := range []api.Rat{{}, {Num: "2", Den: "4"}, {Num: "1", Den: "0"}, {Num: ten(600), Den: "1"}} {
		checkConvert(t, h, wrong, "?", "?", api.Rat{}, api.ErrForm)
	}
	great := number(t, ten(599))
	checkConvert(t, h, great, "m", "m", great, api.OK)
	checkConvert(t, h, great, "m", "km", number(t, ten(596)), api.OK)
	checkConvert(t, h, great, "km", "m", api.Rat{}, api.ErrLarge)
	checkConvert(t, h, great, "km", "s", api.Rat{}, api.ErrDim)
	// What is reckoned on the way does not count.
	checkConvert(t, h, great, "Gm", "Gm", great, api.OK)
	checkConvert(t, h, great, "degF", "\u2109", great, api.OK)
}

// Of nil: zero values.
func TestNil(t *testing.T) {
	var h *house.House
	if len(h.Units()) != 0 || len(h.Consts()) != 0 || len(h.Prefixes()) != 0 || len(h.Edges()) != 0 || len(h.Health()) != 0 {
		t.Error("nil has something")
	}
	checkUnit(t, h, "", api.Unit{}, api.ErrNil)
	checkUnit(t, h, "m", api.Unit{}, api.ErrNil)
	checkConst(t, h, "", api.Const{}, api.ErrNil)
	checkConst(t, h, "light", api.Const{}, api.ErrNil)
	checkConvert(t, h, api.Rat{}, "m", "m", api.Rat{}, api.ErrNil)
	checkConvert(t, h, rat.Of(1), "m", "m", api.Rat{}, api.ErrNil)
}

// P16.6, P16.8: of the own house.
func TestOwnEdges(t *testing.T) {
	h := own(t)
	l := h.Edges()
	if len(l) != 62 {
		t.Fatal(len(l))
	}
	for _, want := range []struct {
		at            int
		from, to, mul string
		add           string
	}{{0, "b", "= B", "1", "0"}, {4, "m", "= L", "1", "0"}, {5, "g", "= M", "1/1000", "0"}, {8, "N", "= L M T^-2", "1", "0"}, {25, "rad", "= 1", "1", "0"}, {38, "\u00b0C", "= H", "1", "5463/20"}, {39, "\u00b0F", "= H", "5/9", "45967/180"}, {47, "mi", "= L", "201168/125", "0"}} {
		if got := l[want.at]; got != (api.Edge{From: want.from, To: want.to, Mul: number(t, want.mul), Add: number(t, want.add)}) {
			t.Errorf("edge %d: %v", want.at, got)
		}
	}
	checkClosed(t, h)
}

// checkClosed: P16.8: its edges are a graph, which converts as it does; and P4: a group.
func checkClosed(t *testing.T, h *house.House) {
	t.Helper()
	g, e, at, way := graph.New(h.Edges())
	if g == nil || e != api.OK || at != 0 || len(way) != 0 {
		t.Fatal(e, at, way)
	}
	x := number(t, "-7/3")
	units := h.Units()
	for _, a := range units {
		for _, b := range units {
			got, why := h.Convert(x, a.Symbol, b.Symbol)
			if a.Dim != b.Dim {
				if why != api.ErrDim {
					t.Errorf("from %s to %s: %d", a.Symbol, b.Symbol, why)
				}
				continue
			}
			want, e := g.Convert(x, a.Symbol, b.Symbol)
			if got != want || why != e {
				t.Errorf("from %s to %s: %v, %d, not %v, %d", a.Symbol, b.Symbol, got, why, want, e)
			}
			if why != api.OK {
				continue
			}
			if a.Symbol == b.Symbol && got != x {
				t.Errorf("from %s to itself: %v", a.Symbol, got)
			}
			checkConvert(t, h, got, b.Symbol, a.Symbol, x, api.OK)
			for _, c := range units {
				if end, e := h.Convert(x, a.Symbol, c.Symbol); e == api.OK {
					checkConvert(t, h, got, b.Symbol, c.Symbol, end, api.OK)
				}
			}
		}
	}
}

// P16.3: they are as the chapter tells them, and the house that they make is the own one.
func TestDecls(t *testing.T) {
	l := house.Decls()
	if len(l) != 32+62+13+11 {
		t.Fatal(len(l))
	}
	for n, p := range prefix.All() {
		takes := api.SiPrefix
		if p.Binary {
			takes = api.BinPrefix
		}
		checkDecl(t, l[n], api.Decl{Kind: api.DPrefix, Name: p.Name, Symbol: p.Symbol, Factor: p.Factor, Takes: takes})
	}
	for n, u := range allUnits() {
		d := api.Decl{Name: u.Name, Symbol: u.Symbol, Factor: u.Factor, Takes: u.Takes}
		switch {
		case n < 8:
			d.Kind, d.Dim = api.DBase, u.Dim
		case n >= 37 && n < 40:
			d.Kind, d.Of, d.Offset = api.DScale, "K", u.Offset
		default:
			d.Kind = api.DUnit
			for place, word := range strings.Fields("m kg s A K mol cd b") {
				if u.Dim[place] != 0 {
					d.Parts = append(d.Parts, api.Part{Name: word, Exp: u.Dim[place]})
				}
			}
		}
		checkDecl(t, l[32+n], d)
	}
	for n, c := range nature.All() {
		checkDecl(t, l[94+n], api.Decl{Kind: api.DConst, Name: c.Name, Symbol: c.Symbol, Factor: c.Value, Spread: c.Spread, Parts: partsOf(t, strings.Fields(c.Unit))})
	}
	for n, o := range others() {
		checkDecl(t, l[107+n], api.Decl{Kind: api.DAlias, Name: o[0], Of: o[1]})
	}
	checkDecl(t, l[32+8], decls(t, "unit newton N 1 si m kg s^-2")[0])
	checkDecl(t, l[32+38], decls(t, "scale celsius \u00b0C 1 5463/20 K")[0])
	checkSame(t, built(t, l), own(t))
}

func checkDecl(t *testing.T, got, want api.Decl) {
	t.Helper()
	if len(got.Parts) == 0 && len(want.Parts) == 0 {
		got.Parts, want.Parts = nil, nil
	}
	if !reflect.DeepEqual(got, want) {
		t.Errorf("%v, not %v", got, want)
	}
}

// checkSame: two houses answer the same, as far as these words go.
func checkSame(t *testing.T, a, b *house.House, words ...string) {
	t.Helper()
	if !slices.Equal(a.Units(), b.Units()) || !slices.Equal(a.Consts(), b.Consts()) || !slices.Equal(a.Prefixes(), b.Prefixes()) || !slices.Equal(a.Edges(), b.Edges()) {
		t.Error("the houses have not the same things")
	}
	for _, o := range others() {
		words = append(words, o[0], "k"+o[0])
	}
	for _, u := range a.Units() {
		words = append(words, u.Name, u.Symbol, "k"+u.Symbol, "kilo"+u.Name, "da"+u.Symbol)
	}
	for _, word := range words {
		u, e := a.Unit(word)
		checkUnit(t, b, word, u, e)
		c, e := a.Const(word)
		checkConst(t, b, word, c, e)
	}
}

// table: the chapter's table of packages and imports.
const table = `
cubit/api
cubit/nat cubit/api
cubit/rat cubit/api cubit/nat
cubit/dim cubit/api
cubit/names cubit/api
cubit/prefix cubit/api cubit/rat
cubit/reg cubit/api cubit/dim cubit/names cubit/prefix cubit/rat
cubit/base cubit/api cubit/dim cubit/rat cubit/reg
cubit/si cubit/api cubit/base cubit/dim cubit/prefix cubit/rat cubit/reg
cubit/nature cubit/api cubit/dim cubit/rat cubit/reg cubit/si
cubit/temps cubit/api cubit/dim cubit/rat cubit/reg cubit/si
cubit/trad cubit/api cubit/base cubit/dim cubit/rat cubit/reg cubit/si
cubit/graph cubit/api cubit/rat
cubit/start cubit/api
cubit/house cubit/api cubit/base cubit/dim cubit/graph cubit/names cubit/nature cubit/prefix cubit/rat cubit/reg cubit/si cubit/start cubit/temps cubit/trad`

// P16.4: the packages and their imports; which files and variables they have is held against the program's text by package rules.
func TestPlan(t *testing.T) {
	l := house.Plan()
	rows := strings.Split(strings.TrimSpace(table), "\n")
	if len(l) != 15 || len(rows) != 15 {
		t.Fatal(len(l), len(rows))
	}
	for n, row := range rows {
		w := strings.Fields(row)
		if l[n].Path != w[0] || !slices.Equal(l[n].Imports, w[1:]) {
			t.Errorf("package %d: %s %q, not %q", n, l[n].Path, l[n].Imports, w)
		}
	}
	counts := map[string][]int{}
	for _, p := range l {
		for _, f := range p.Files {
			counts[p.Path] = append(counts[p.Path], len(f.Vars))
			if len(f.Funcs) != 0 || f.Inits != 0 {
				t.Error(p.Path, f.Name, f.Funcs, f.Inits)
			}
		}
	}
	want := map[string][]int{"cubit/prefix": {12, 12, 8}, "cubit/base": {8}, "cubit/si": {2, 2, 6}, "cubit/trad": {8, 14}, "cubit/temps": {1, 3}, "cubit/nature": {13}, "cubit/house": {2, 2}}
	if !reflect.DeepEqual(counts, want) {
		t.Error(counts)
	}
	all := l[8].Files[0].Vars[0]
	if all.Name != "all" || !slices.Equal(all.Uses, strings.Fields("force energy power electric times rays plane light along")) {
		t.Error(all)
	}
	if v := l[7].Files[0].Vars[1]; v.Name != "candela" || !slices.Equal(v.Uses, []string{"metre", "gram", "second"}) {
		t.Error(v)
	}
	paths, e, _ := start.Packages(l)
	if e != api.OK || strings.Join(paths, " ") != "cubit/"+strings.Join(strings.Fields("api dim names nat rat graph prefix reg base si nature start temps trad house"), " cubit/") {
		t.Error(paths, e)
	}
}

// P2, P16.7: what each package tells is what the start makes, in its order.
func TestKnowsItself(t *testing.T) {
	steps, e, _ := start.Order(house.Plan())
	if e != api.OK || len(steps) != 93 {
		t.Fatal(len(steps), e)
	}
	for n, want := range map[int]string{0: "cubit/prefix deca", 32: "cubit/base bit", 89: "cubit/house parts", 90: "cubit/house aliases", 91: "cubit/house board", 92: "cubit/house plan"} {
		if got := steps[n].Path + " " + steps[n].What; got != want {
			t.Errorf("step %d: %s, not %s", n, got, want)
		}
	}
	made := map[string][]string{}
	for _, s := range steps {
		made[s.Path] = append(made[s.Path], s.What)
	}
	var told []string
	check := func(path string) {
		t.Helper()
		if !slices.Equal(made["cubit/"+path], told) {
			t.Errorf("%s tells %q, not %q", path, told, made["cubit/"+path])
		}
	}
	names := func(l []api.Unit) []string {
		var all []string
		for _, u := range l {
			all = append(all, u.Name)
		}
		return all
	}
	for _, p := range prefix.All() {
		told = append(told, p.Name)
	}
	check("prefix")
	told = nil
	for _, c := range nature.All() {
		told = append(told, c.Name)
	}
	check("nature")
	told = names(base.Units())
	check("base")
	told = names(trad.Units())
	check("trad")
	made["cubit/temps"] = slices.DeleteFunc(made["cubit/temps"], func(s string) bool { return s == "points" })
	told = names(temps.Units())
	check("temps")
	group := map[string]string{"electric": "coulomb volt farad ohm siemens weber tesla henry", "light": "lumen lux", "rays": "becquerel gray sievert katal", "force": "newton pascal", "energy": "joule", "power": "watt", "times": "hertz", "plane": "radian steradian", "along": "minute hour day litre tonne bar hectare byte"}
	told = nil
	for _, v := range made["cubit/si"] {
		told = append(told, strings.Fields(group[v])...)
	}
	if !slices.Equal(told, names(si.Units())) {
		t.Errorf("si tells %q", names(si.Units()))
	}
	if !slices.Equal(names(own(t).Units()), names(allUnits())) {
		t.Error("the own house has them in another order")
	}
}

// P3: each unit is right, and no word is two things.
func TestOwnIsHealthy(t *testing.T) {
	h := own(t)
	r := reg.New()
	for _, u := range h.Units() {
		if e := r.Add(u); e != api.OK {
			t.Error(u, e)
		}
	}
	for _, c := range h.Consts() {
		if e := r.Keep(c); e != api.OK {
			t.Error(c, e)
		}
	}
	for _, o := range others() {
		if e := r.Alias(o[0], o[1]); e != api.OK {
			t.Error(o, e)
		}
	}
	// Each word of the registry, and what it reads, the house reads alike.
	for _, word := range r.Words() {
		for _, p := range append(prefix.All(), api.Prefix{}, api.Prefix{Name: "u", Symbol: "u"}) {
			for _, text := range []string{p.Name + word, p.Symbol + word} {
				u, e := r.Find(text)
				if e == api.ErrMixed {
					continue // by two words of one unit: of a registry these are two readings
				}
				checkUnit(t, h, text, u, e)
			}
		}
	}
}

// Rules 5 and 6: answers are new, and all that ask are answered the same, at one time too.
func TestOwnIsOne(t *testing.T) {
	h := own(t)
	units, consts, prefixes, edges, plan, list := h.Units(), h.Consts(), h.Prefixes(), h.Edges(), house.Plan(), house.Decls()
	before := fmt.Sprint(h.Units(), h.Consts(), h.Prefixes(), h.Edges(), house.Plan(), house.Decls())
	units[0], consts[0], prefixes[0], edges[0] = api.Unit{}, api.Const{}, api.Prefix{}, api.Edge{}
	plan[5].Files[0].Vars[0].Uses[0], plan[5].Imports[0], plan[5].Files[1] = "?", "?", api.File{}
	list[40].Parts[0], list[0] = api.Part{}, api.Decl{}
	if after := fmt.Sprint(h.Units(), h.Consts(), h.Prefixes(), h.Edges(), house.Plan(), house.Decls()); after != before {
		t.Error("what was done with answers is seen")
	}
	var all sync.WaitGroup
	for range 8 {
		all.Go(func() {
			other, e := house.Own()
			if e != api.OK {
				t.Error(e)
				return
			}
			checkSame(t, h, other)
			checkConvert(t, h, rat.Of(1), "mi", "yd", rat.Of(1760), api.OK)
		})
	}
	all.Wait()
}
