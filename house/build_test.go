package house_test

import (
	"fmt"
	"math"
	"slices"
	"strings"
	"testing"

	"cubit/api"
	"cubit/house"
	"cubit/rat"
)

// The chapter's second example, and the page's fourth and fifth.
func TestBuildExamples(t *testing.T) {
	checkText(t, "base metre m L 1 si\nunit foo foo 2 none bar\nunit bar bar 3 none foo", api.ErrCycle, 1)
	checkText(t, "unit foo foo 2 none baz", api.ErrUnit, 0)
	checkText(t, "base metre m L 1 si\nbase yard m L 2 none", api.ErrTwice, 1)
	checkText(t, "base metre m L 1 si\nbase yard y L 2 none", api.ErrTwice, 1)
	h := built(t, decls(t, "base metre m L 1 si\nunit yard yd 9144/10000 none m\nprefix kilo k 1000 si"))
	checkUnit(t, h, "km", unit(t, "kilometre km 1000 0 0", "L"), api.OK)
	checkUnit(t, h, "yd", unit(t, "yard yd 1143/1250 0 0", "L"), api.OK)
	checkNoUnit(t, h, api.ErrUnit, "kyd", "mm", "s")
	checkConvert(t, h, rat.Of(1), "yd", "km", number(t, "1143/1250000"), api.OK)
	if len(h.Units()) != 2 || len(h.Consts()) != 0 || len(h.Prefixes()) != 1 {
		t.Error(h.Units(), h.Consts(), h.Prefixes())
	}
	h = built(t, nil)
	if len(h.Units()) != 0 || len(h.Edges()) != 0 || len(h.Health()) != 0 {
		t.Error(h.Units())
	}
	checkNoUnit(t, h, api.ErrUnit, "m")
	checkConst(t, h, "m", api.Const{}, api.ErrName)
}

// What each kind of declaration makes.
func TestBuildMakes(t *testing.T) {
	h := built(t, decls(t, `
		const plank pl -3/4 1/2 kN^2 sec^-1 kN
		const pure pu 5 0
		unit newton N 2 any kg m s^-2
		unit pure_number one 7/2 binary
		unit cancel ca 3 none m m^-1 kg^2
		scale hot °h 1/3 -7 kelvin
		scale step st 2 0 kK
		alias sec s
		base metre m L 5 si
		base kilo_gram g M 1/1000 si
		base second s T 1 none
		base kelvin K H 10 si
		prefix kilo k 1000 si
		prefix kibi Ki 1024 binary`))
	want := []api.Unit{
		unit(t, "newton N 10 0 3", "L M T^-2"),
		unit(t, "pure_number one 7/2 0 2", "1"),
		unit(t, "cancel ca 3 0 0", "M^2"),
		unit(t, "hot \u00b0h 10/3 -70 0", "H"),
		unit(t, "step st 20000 0 0", "H"),
		unit(t, "metre m 5 0 1", "L"),
		unit(t, "kilo_gram g 1/1000 0 1", "M"),
		unit(t, "second s 1 0 0", "T"),
		unit(t, "kelvin K 10 0 1", "H"),
	}
	if got := h.Units(); !slices.Equal(got, want) {
		t.Errorf("%v, not %v", got, want)
	}
	plank := api.Const{Name: "plank", Symbol: "pl", Value: number(t, "-3/4"), Spread: number(t, "1/2"), Unit: "kN^2 sec^-1 kN"}
	pure := api.Const{Name: "pure", Symbol: "pu", Value: rat.Of(5), Spread: rat.Of(0)}
	if got := h.Consts(); !slices.Equal(got, []api.Const{plank, pure}) {
		t.Error(got)
	}
	kilo := api.Prefix{Name: "kilo", Symbol: "k", Factor: rat.Of(1000)}
	kibi := api.Prefix{Name: "kibi", Symbol: "Ki", Factor: rat.Of(1024), Binary: true}
	if got := h.Prefixes(); !slices.Equal(got, []api.Prefix{kilo, kibi}) {
		t.Error(got)
	}
	checkUnit(t, h, "KiN", unit(t, "kibinewton KiN 10240 0 0", "L M T^-2"), api.OK)
	checkUnit(t, h, "Kione", unit(t, "kibipure_number Kione 3584 0 0", "1"), api.OK)
	checkNoUnit(t, h, api.ErrUnit, "kone", "Kim", "ks", "ksec", "kst", "kca", "pl", "kpl", "pure")
	checkConst(t, h, "pl", plank, api.OK)
	checkConst(t, h, "pure", pure, api.OK)
	checkClosed(t, h)
	if ills := h.Health(); len(ills) != 0 {
		t.Error(ills)
	}
}

// Round 1: all that chapter 17 does not call right.
func TestBuildForm(t *testing.T) {
	right := decls(t, `
		base metre m L 1 si
		unit foo fo 2 any m^2
		scale sc sc 2 -3 m
		alias al m
		prefix kilo k 1000 si
		const co co -1 0 m`)
	checkBuild(t, right, api.OK, 0)
	changes := map[string]func(d *api.Decl){
		"kind 0":        func(d *api.Decl) { d.Kind = 0 },
		"kind 7":        func(d *api.Decl) { d.Kind = 7 },
		"kind below 0":  func(d *api.Decl) { d.Kind = math.MinInt },
		"no name":       func(d *api.Decl) { d.Name = "" },
		"a wrong name":  func(d *api.Decl) { d.Name = "2a" },
		"not folded":    func(d *api.Decl) { d.Name = "\u00b5" },
		"a taken name":  func(d *api.Decl) { d.Name = "in" },
		"a long name":   func(d *api.Decl) { d.Name = strings.Repeat("a", 41) },
		"wrong symbol":  func(d *api.Decl) { d.Symbol = "a b" },
		"other symbol":  func(d *api.Decl) { d.Symbol = swap(d.Symbol) },
		"wrong of":      func(d *api.Decl) { d.Of = "?" },
		"other of":      func(d *api.Decl) { d.Of = swap(d.Of) },
		"wrong factor":  func(d *api.Decl) { d.Factor = api.Rat{Num: "2", Den: "4"} },
		"half a factor": func(d *api.Decl) { d.Factor = api.Rat{Num: "1"} },
		"no factor":     func(d *api.Decl) { d.Factor = turn(d.Factor) },
		"factor 0":      func(d *api.Decl) { d.Factor = rat.Of(0) },
		"factor below":  func(d *api.Decl) { d.Factor = rat.Of(-1) },
		"wrong offset":  func(d *api.Decl) { d.Offset = api.Rat{Num: "0", Den: "2"} },
		"other offset":  func(d *api.Decl) { d.Offset = turn(d.Offset) },
		"wrong spread":  func(d *api.Decl) { d.Spread = api.Rat{Num: "01", Den: "1"} },
		"other spread":  func(d *api.Decl) { d.Spread = turn(d.Spread) },
		"spread below":  func(d *api.Decl) { d.Spread = rat.Of(-1) },
		"dim 2":         func(d *api.Decl) { d.Dim = api.Dim{2} },
		"dim -1":        func(d *api.Decl) { d.Dim = api.Dim{-1} },
		"two dims":      func(d *api.Decl) { d.Dim = api.Dim{1, 1} },
		"two and less":  func(d *api.Decl) { d.Dim = api.Dim{0, 1, -1, 1} },
		"other dim":     func(d *api.Decl) { d.Dim[7] = 1 },
		"great dim":     func(d *api.Decl) { d.Dim = api.Dim{math.MaxInt} },
		"part 0":        func(d *api.Decl) { d.Parts = []api.Part{{Name: "m"}} },
		"part 100":      func(d *api.Decl) { d.Parts = []api.Part{{Name: "m", Exp: 100}} },
		"part -100":     func(d *api.Decl) { d.Parts = []api.Part{{Name: "m", Exp: -100}} },
		"least part":    func(d *api.Decl) { d.Parts = []api.Part{{Name: "m", Exp: math.MinInt}} },
		"wrong part":    func(d *api.Decl) { d.Parts = []api.Part{{Name: "m", Exp: 1}, {Name: "m^2", Exp: 1}} },
		"65 parts":      func(d *api.Decl) { d.Parts = slices.Repeat([]api.Part{{Name: "m", Exp: 1}}, 65) },
		"takes -1":      func(d *api.Decl) { d.Takes = -1 },
		"takes 4":       func(d *api.Decl) { d.Takes = 4 },
	}
	may := map[string]string{
		"other symbol": "", "other of": "", "no factor": "", "factor 0": "const", "factor below": "const", "other offset": "", "other spread": "",
	}
	for what, change := range changes {
		for n := range right {
			l := slices.Clone(right)
			change(&l[n])
			kind := strings.Fields("none base unit scale alias prefix const")[right[n].Kind]
			if slices.Contains(strings.Fields(may[what]), kind) {
				checkBuild(t, l, api.OK, 0)
				continue
			}
			if h, e, at := house.Build(l); h != nil || e != api.ErrForm || at != n {
				t.Errorf("%s of %s: %d, %d", what, kind, e, at)
			}
		}
	}
	// A prefix takes 1 or 2, a field that a kind has not is a zero value.
	for takes, is := range map[int]api.Errno{0: api.ErrForm, 1: api.OK, 2: api.OK, 3: api.ErrForm} {
		d := right[4]
		d.Takes = takes
		checkBuild(t, []api.Decl{d}, is, 0)
	}
	for n, takes := range map[int]int{2: 1, 3: 1, 5: 1} {
		l := slices.Clone(right)
		l[n].Takes = takes
		checkBuild(t, l, api.ErrForm, n)
	}
	for _, n := range []int{0, 2, 3, 4} {
		l := slices.Clone(right)
		l[n].Parts = []api.Part{{Name: "m", Exp: 1}}
		checkBuild(t, l, api.ErrForm, n)
		l[n].Parts = []api.Part{}
		checkBuild(t, l, api.OK, 0)
	}
	l := slices.Clone(right)
	l[1].Parts = slices.Concat(slices.Repeat([]api.Part{{Name: "m", Exp: 1}}, 32), slices.Repeat([]api.Part{{Name: "m", Exp: -1}}, 32))
	checkBuild(t, l, api.OK, 0)
	for place := range 8 {
		d := right[0]
		d.Dim = api.Dim{}
		checkBuild(t, []api.Decl{d}, api.ErrForm, 0)
		d.Dim[place] = 1
		checkBuild(t, []api.Decl{d}, api.OK, 0)
	}
	// It is looked for in all of them ahead of all else.
	checkBuild(t, slices.Concat(right, right, []api.Decl{{}}), api.ErrForm, 12)
}

// swap: something where nothing should be, and nothing where something should be.
func swap(s string) string {
	if s == "" {
		return "m"
	}
	return ""
}

func turn(r api.Rat) api.Rat {
	none := api.Rat{}
	if r == none {
		return rat.Of(1)
	}
	return none
}

// Round 2.
func TestBuildTwice(t *testing.T) {
	kinds := map[string]string{"base": "base %s %s L 1 si", "unit": "unit %s %s 1 none", "scale": "scale %s %s 1 0 zz", "const": "const %s %s 1 0"}
	line := func(kind, name, symbol string) string { return fmt.Sprintf(kinds[kind], name, symbol) }
	for first := range kinds {
		for second := range kinds {
			head := "unit zzz zz 1 none\n"
			ahead := head + line(first, "a", "b") + "\n"
			for _, word := range []string{"a", "b"} {
				checkText(t, ahead+line(second, word, "d"), api.ErrTwice, 2)
				checkText(t, ahead+line(second, "d", word), api.ErrTwice, 2)
				checkText(t, ahead+"alias "+word+" zz", api.ErrTwice, 2)
				checkText(t, head+"alias "+word+" zz\n"+line(first, "a", "b"), api.ErrTwice, 2)
				checkText(t, ahead+"prefix "+word+" c 2 si", api.OK, 0)
				checkText(t, "prefix "+word+" c 2 si\n"+ahead, api.OK, 0)
			}
			if first != "base" || second != "base" {
				checkText(t, ahead+line(second, "c", "d"), api.OK, 0)
				checkText(t, ahead+line(second, "c", "c"), api.OK, 0)
			}
		}
	}
	checkText(t, "unit a b 1 none\nalias c a\nalias c b", api.ErrTwice, 2)
	checkText(t, "unit a b 1 none\nalias c a\nalias d b", api.OK, 0)
	for _, text := range []string{"prefix a d 2 si", "prefix d a 2 si", "prefix b d 2 si", "prefix d b 2 binary"} {
		checkText(t, "prefix a b 2 si\n"+text, api.ErrTwice, 1)
	}
	checkText(t, "prefix a b 2 si\nprefix c d 2 si\nprefix e e 2 binary", api.OK, 0)
	checkText(t, "base a b L 1 si\nbase c d M 1 si\nbase e f L 3 none", api.ErrTwice, 2)
	checkText(t, "base a b L 1 si\nbase c d M 1 si\nunit e f 1 si a", api.OK, 0)
	// Ahead of rounds 3 to 6.
	checkText(t, "unit a b 1 none zz\nunit c c 1 none c\nunit a d 1 none", api.ErrTwice, 2)
}

// Round 3: at the limits, and beyond.
func TestBuildFull(t *testing.T) {
	fill := func(n int, form string) string {
		text := strings.Builder{}
		for i := range n {
			fmt.Fprintf(&text, form+"\n", named(i))
		}
		return text.String()
	}
	most := "unit u u 1 any\nunit v v 1 none zz\nunit q q 1 none\n" + fill(509, "scale s%[1]s s%[1]s 1 0 u") + fill(512, "const c%[1]s c%[1]s 1 0") + fill(1024, "alias a%[1]s u") + fill(64, "prefix p%[1]s p%[1]s 2 si")
	checkText(t, most, api.ErrUnit, 1)
	good := strings.Replace(most, " zz", "", 1)
	h := built(t, decls(t, good))
	if len(h.Units()) != 512 || len(h.Consts()) != 512 || len(h.Prefixes()) != 64 || len(h.Health()) != 0 || len(h.Edges()) != 512 {
		t.Error(len(h.Units()), len(h.Consts()), len(h.Prefixes()), h.Health())
	}
	checkUnit(t, h, "an1023", unit(t, "u u 1 0 3", "1"), api.OK)
	checkUnit(t, h, "pn63an1023", unit(t, "pn63u pn63u 2 0 0", "1"), api.OK)
	for _, more := range []string{"unit x x 1 none", "base x x L 1 si", "scale x x 1 0 u", "const x x 1 0", "alias x u", "prefix x x 1 si"} {
		checkText(t, most+more, api.ErrFull, 512+512+1024+64)
	}
	checkText(t, "unit x x 1 none\n"+most, api.ErrFull, 512)
	checkText(t, "const x x 1 0\n"+most, api.ErrFull, 512+512)
	checkText(t, "alias x u\n"+most, api.ErrFull, 512+512+1024)
	checkText(t, "prefix x x 1 si\n"+most, api.ErrFull, 512+512+1024+64)
}

// Round 4.
func TestBuildWords(t *testing.T) {
	head := "base metre m L 1 si\nbase am am M 1 any\nprefix deca da 10 si\nprefix deci d 1/10 si\nprefix kibi Ki 1024 binary\nconst light c 5 0 m\nalias meter m\n"
	for word, is := range map[string]api.Errno{"m": api.OK, "dm": api.OK, "decametre": api.OK, "decameter": api.OK, "dmeter": api.OK, "Kiam": api.OK, "dam": api.ErrMixed, "Kim": api.ErrUnit, "c": api.ErrUnit, "light": api.ErrUnit, "dc": api.ErrUnit, "dmetre": api.ErrUnit, "decam": api.ErrUnit, "x": api.ErrUnit, "d": api.ErrUnit, "deca": api.ErrUnit} {
		for _, form := range []string{"unit x1 x2 3 none %s", "unit x1 x2 3 none m^2 %s^-1", "scale x1 x2 3 0 %s", "const x1 x2 3 0 %s", "const x1 x2 3 0 m %s^2"} {
			at := 7
			if is == api.OK {
				at = 0
			}
			checkText(t, head+fmt.Sprintf(form, word), is, at)
		}
	}
	// Of another name: a Name or Symbol of a unit, as it stands.
	for of, is := range map[string]api.Errno{"m": api.OK, "metre": api.OK, "am": api.OK, "meter": api.ErrUnit, "dm": api.ErrUnit, "dam": api.ErrUnit, "c": api.ErrUnit, "light": api.ErrUnit, "da": api.ErrUnit, "x": api.ErrUnit, "y": api.ErrUnit} {
		at := 7
		if is == api.OK {
			at = 0
		}
		checkText(t, head+"alias x "+of, is, at)
	}
	// The first word at fault counts.
	checkText(t, head+"unit x x 1 none m dam foo", api.ErrMixed, 7)
	checkText(t, head+"unit x x 1 none m foo dam", api.ErrUnit, 7)
	// What stands behind is read, too; another name of nothing is read as nothing, and not cut.
	checkText(t, "unit x x 1 none ky\nalias z y\nunit y y 1 si kz\nprefix kilo k 5 si", api.ErrCycle, 1)
	checkText(t, "unit x x 1 none kz\nalias z y\nunit y y 1 si\nprefix kilo k 5 si", api.OK, 0)
	checkText(t, "unit x x 1 none km\nunit m m 1 si\nprefix kilo k 5 si\nalias km foo", api.ErrUnit, 0)
	checkText(t, "unit x x 1 none m\nunit m m 1 si\nprefix kilo k 5 si\nalias km foo", api.ErrUnit, 3)
	checkText(t, "unit x x 1 none kal\nunit m m 1 si\nprefix kilo k 5 si\nalias al foo", api.ErrUnit, 0)
	checkText(t, "unit x x 1 none al\nunit m m 1 si\nalias al be\nalias be m", api.ErrUnit, 0)
	// A word that is something itself is not cut.
	h := built(t, decls(t, "unit m m 1 si\nunit km km 5 none\nprefix kilo k 7 si\nconst hm hm 1 0\nprefix hecto h 100 si\nunit x x 1 none km\nalias jm km\nprefix jot j 3 si"))
	checkUnit(t, h, "x", unit(t, "x x 5 0 0", "1"), api.OK)
	checkUnit(t, h, "km", unit(t, "km km 5 0 0", "1"), api.OK)
	checkUnit(t, h, "jm", unit(t, "km km 5 0 0", "1"), api.OK)
	checkNoUnit(t, h, api.ErrUnit, "hm")
	checkUnit(t, h, "hectom", unit(t, "hectom hm 100 0 0", "1"), api.OK)
	// Ahead of rounds 5 and 6, whatever the order.
	checkText(t, "unit a a 1 none a\nunit b b 1 none foo", api.ErrUnit, 1)
}

// Words with u for a prefix whose symbol is a mu, and two readings that are one.
func TestBuildReadings(t *testing.T) {
	h := built(t, decls(t, "unit sec s 1 any\nprefix micro \u03bc 1/1000000 si\nprefix my \u03bcy 1/7 si"))
	want := unit(t, "microsec \u03bcs 1/1000000 0 0", "1")
	for _, word := range []string{"us", "\u03bcs", "\u00b5s", "microsec"} {
		checkUnit(t, h, word, want, api.OK)
	}
	checkNoUnit(t, h, api.ErrUnit, "uys", "usec", "u")
	h = built(t, decls(t, "unit sec s 1 any\nprefix micro \u03bc 1/1000000 si\nprefix unit u 2 si"))
	checkNoUnit(t, h, api.ErrMixed, "us")
	checkUnit(t, h, "\u03bcs", want, api.OK)
	h = built(t, decls(t, "unit sec s 1 any\nprefix micro u 2 binary"))
	checkUnit(t, h, "us", unit(t, "microsec us 2 0 0", "1"), api.OK)
	checkNoUnit(t, h, api.ErrUnit, "\u03bcs")
	// By the prefix's Name and another name, and by both Symbols: one prefix and one unit.
	h = built(t, decls(t, "unit one bc 1 any\nalias abc bc\nprefix k ka 5 si\nunit x x 1 none kabc"))
	checkUnit(t, h, "kabc", unit(t, "kone kabc 5 0 0", "1"), api.OK)
	checkUnit(t, h, "x", unit(t, "x x 5 0 0", "1"), api.OK)
	h = built(t, decls(t, "unit one bc 1 any\nunit two abc 1 any\nprefix k kj 5 si\nprefix l ka 5 si"))
	checkUnit(t, h, "kabc", unit(t, "lone kabc 5 0 0", "1"), api.OK)
	h = built(t, decls(t, "unit one bc 1 any\nunit two abc 1 any\nprefix k k 5 si\nprefix l ka 5 si"))
	checkNoUnit(t, h, api.ErrMixed, "kabc")
	h = built(t, decls(t, "unit one bc 1 si\nunit two abc 1 binary\nprefix k k 5 si\nprefix l ka 5 si"))
	checkUnit(t, h, "kabc", unit(t, "lone kabc 5 0 0", "1"), api.OK)
}

// Round 5: what leans on itself, by other names too, and not what leans on such ones.
func TestBuildCycle(t *testing.T) {
	checkText(t, "unit a a 1 none a", api.ErrCycle, 0)
	checkText(t, "unit a a 1 si ka\nprefix kilo k 2 si", api.ErrCycle, 0)
	checkText(t, "unit x x 1 none a\nconst c c 1 0 b\nunit a a 1 none b\nunit b b 1 none d\nunit d d 1 none a", api.ErrCycle, 2)
	checkText(t, "scale a a 1 0 b\nscale b b 1 0 a", api.ErrCycle, 0)
	checkText(t, "base m m L 1 si\nunit z z 1 none m y\nunit y y 1 none m z m", api.ErrCycle, 1)
	// Another name leans on its unit; what is read by it leans on it.
	checkText(t, "alias al a\nunit a a 1 none al", api.ErrCycle, 0)
	checkText(t, "alias be a\nalias al a\nunit a a 1 none al", api.ErrCycle, 1)
	checkText(t, "alias be a\nunit a a 1 none a", api.ErrCycle, 1)
	checkText(t, "alias al a\nunit a a 1 any kal\nprefix kilo k 2 si", api.ErrCycle, 0)
	// .. but not where a Name or Symbol gives that reading, too.
	checkText(t, "alias abc bc\nunit one bc 1 any kabc\nprefix k ka 5 si", api.ErrCycle, 1)
	checkText(t, "alias abc cc\nunit one cc 1 any kabc\nprefix k ka 5 si", api.ErrCycle, 0)
	// Of several other names the first one.
	checkText(t, "unit x x 1 none\nalias abc cc\nalias bc cc\nunit one cc 1 any kabc\nprefix k ka 5 si", api.ErrCycle, 1)
	checkText(t, "unit x x 1 none\nalias bc cc\nalias abc cc\nunit one cc 1 any kabc\nprefix k ka 5 si", api.ErrCycle, 1)
	// Ahead of round 6.
	checkText(t, "base m m L 1 si\nscale s s 1 1 m\nunit t t 1 none s\nunit a a 1 none a", api.ErrCycle, 3)
}

// Round 6: scales.
func TestBuildAffine(t *testing.T) {
	head := "base kelvin K H 1 si\nscale cel C 1 5 K\nscale ran R 2 0 K\nalias deg C\n"
	for _, text := range []string{"unit x x 1 none C", "unit x x 1 none K C^-1", "scale x x 1 0 cel", "scale x x 1 3 deg", "const x x 1 0 K deg^2"} {
		checkText(t, head+text, api.ErrAffine, 4)
	}
	for _, text := range []string{"unit x x 1 none R", "scale x x 1 0 ran", "scale x x 1 3 R", "const x x 1 0 R^2"} {
		checkText(t, head+text, api.OK, 0)
	}
	// Ahead of the other two faults.
	checkText(t, head+"unit x x 1 none K^99 K C", api.ErrAffine, 4)
	checkText(t, head+"unit y y "+ten(500)+" none\nunit x x 1 none y^2 C", api.ErrAffine, 5)
	// One that leans on one at fault is not to blame, wherever it stands; among the others the first one.
	checkText(t, "unit z z 1 none x^99\n"+head+"unit x x 1 none C", api.ErrAffine, 5)
	checkText(t, "unit z z 1 none x x^-1\nalias y x\n"+head+"const c c 1 0 K^99 K\nunit x x 1 none C", api.ErrExp, 6)
	checkText(t, "scale z z 1 0 x\n"+head+"scale x x 1 0 C", api.ErrAffine, 5)
}

// Round 6: dimensions, of constants too.
func TestBuildExp(t *testing.T) {
	head := "base m m L 1 si\nbase s s T 1 si\nunit v v 1 none m s^-50\n"
	for parts, is := range map[string]api.Errno{"m^99": api.OK, "m^-99": api.OK, "m^99 m": api.ErrExp, "m^-99 m^-1": api.ErrExp, "m^99 m^99 m^-99": api.OK, "m^99 m s^-1 m^-1": api.OK, "v s^-49": api.OK, "v s^-50": api.ErrExp, "v^2": api.ErrExp, "v^2 s": api.OK, "v^99 v^-99": api.OK} {
		at := 3
		if is == api.OK {
			at = 0
		}
		checkText(t, head+"unit x x 1 none "+parts, is, at)
		checkText(t, head+"const x x 1 0 "+parts, is, at)
	}
	// Ahead of a number that is too large.
	checkText(t, head+"unit y y "+ten(500)+" none\nunit x x 1 none y^2 m^99 m", api.ErrExp, 4)
	checkText(t, head+"unit y y "+ten(500)+" none\nunit x x 1 none y^2 m^99", api.ErrLarge, 4)
}

// Round 6: numbers.
func TestBuildLarge(t *testing.T) {
	head := "unit big big " + ten(599) + " any\nunit small small 1/" + ten(599) + " any\nunit two two 2 none\nprefix kilo k 1000 si\nprefix milli m 1/1000 si\n"
	good := []string{"unit x x 9 none big", "unit x x 1/9 none small", "unit x x 1/100 none big two^2", "unit x x 1 none big^99 small^99", "unit x x 1/2 none big^99 small^98 two", "unit x x 1 none big^99 big^-98", "unit x x 1 none two^99 two^99 two^99 two^99 two^99", "unit x x " + ten(599) + " none big^-99 small^-99 big^-1", "unit x x 1 none mbig", "unit x x 1/1000 none mbig^-1", "scale x x 9 0 big", "scale x x 1/7 0 small", "scale x x 1 9 big", "scale x x 1/3 1 mbig", "scale x x 1 1/9 small", "const x x 9 0 big^99", "const x x 9 0 mbig^-99 big"}
	for _, text := range good {
		checkText(t, head+text, api.OK, 0)
	}
	wrong := []string{"unit x x 10 none big", "unit x x 1/10 none small", "unit x x 5 none big two", "unit x x 1 none big^99 small^98 small^-1", "unit x x 1 none big^2", "unit x x 1 none big^-2", "unit x x 1 none kbig", "unit x x 1 none kbig kbig^-1", "unit x x 1/1000 none kbig", "unit x x 1 none msmall big", "scale x x 10 0 big", "scale x x 1/10 0 small", "scale x x 1 10 big", "scale x x 1 1/10 small", "scale x x 1/1000 0 kbig", "const x x 1 0 kbig", "const x x 1 0 big kbig^-1"}
	for _, text := range wrong {
		checkText(t, head+text, api.ErrLarge, 5)
	}
	// The Offset divided by the Factor, which the way back needs.
	checkText(t, "unit a a 1 none\nscale x x "+ten(300)+" 1/"+ten(300)+" a", api.ErrLarge, 1)
	checkText(t, "unit a a 1 none\nscale x x "+ten(300)+" 1/"+ten(299)+" a", api.OK, 0)
	checkText(t, "unit a a 1 none\nscale x x 1/"+ten(300)+" "+ten(299)+" a", api.OK, 0)
	checkText(t, "unit a a 1 none\nscale x x 1/"+ten(300)+" "+ten(300)+" a", api.ErrLarge, 1)
	checkText(t, "unit a a 1 none\nscale x x 1/"+ten(300)+" 0 a", api.OK, 0)
	// Of what has a factor of its own, no word with a prefix need be right, until it is asked for.
	h := built(t, decls(t, head))
	checkNoUnit(t, h, api.ErrLarge, "kbig", "kilobig", "msmall")
	checkUnit(t, h, "mbig", unit(t, "millibig mbig "+ten(596)+" 0 0", "1"), api.OK)
	checkConvert(t, h, rat.Of(1), "kbig", "two", api.Rat{}, api.ErrLarge)
	checkConvert(t, h, rat.Of(1), "two", "kbig", api.Rat{}, api.ErrLarge)
	checkConvert(t, h, rat.Of(1), "mbig", "big", number(t, "1/1000"), api.OK)
	checkConvert(t, h, rat.Of(2), "big", "small", api.Rat{}, api.ErrLarge)
	checkConvert(t, h, number(t, "1/"+ten(599)), "big", "small", number(t, ten(599)), api.OK)
	// The first one of the list that leans on none at fault.
	checkText(t, "unit y y 1 none x\nunit x x 1 none big^2\nunit big big "+ten(599)+" none\nunit z z 1 none big^3", api.ErrLarge, 1)
}

// What is handed in is neither changed nor kept.
func TestBuildKeepsNothing(t *testing.T) {
	text := "base metre m L 1 si\nunit area ar 3 none m^2\nconst co co 1 0 m ar^-1\nalias meter m\nprefix kilo k 1000 si"
	l := decls(t, text)
	before := fmt.Sprint(l)
	h := built(t, l)
	if after := fmt.Sprint(l); after != before {
		t.Errorf("%s has become %s", before, after)
	}
	for i := range l {
		for j := range l[i].Parts {
			l[i].Parts[j] = api.Part{}
		}
		l[i] = api.Decl{}
	}
	checkSame(t, h, built(t, decls(t, text)), "m", "ar", "co", "meter", "kmeter", "kar")
}
